/- What the evaluator's answers say of the machine: the specification; operations; regions in the order of the text. -/
import Derived.TacticsIn
import Derived.LoopNIn
import Derived.RangeFuncCalls
import Derived.RangeFuncRecord
import Derived.Scope
import Derived.OrdersIn
import Derived.Test.YtflblednifbleaaYEa
set_option linter.all false
set_option linter.unusedSimpArgs false
set_option linter.unusedVariables false
namespace Go.Ev
open Go
variable {P:Program}
def All:Nat→Prop:=fun _=>True
def LW (H:EH):Nat→Prop:=fun g=>H.low≤g
abbrev SimA (R R':Ren) (H H':EH) (w w':World):Prop:=Sim R R' All H H' (LW H') w w'
theorem Sim.toA {R R':Ren} {H H':EH} {W:Nat→Prop} {w w':World} (h:Sim R R' All H H' W w w'):SimA R R' H H' w w' :=
 ⟨⟨h.es.next,h.es.low,h.es.old,fun b o hb hn=>h.es.keep b o hb fun hW=>hn (h.es.wr _ hW),h.es.back,h.es.wf,fun _ h=>h,fun b o hb hn=>(h.es.neu b o hb hn).imp id (h.es.wr _)⟩,
  h.rx,⟨h.fr.os,h.fr.tape,h.fr.output,h.fr.size,fun r hr hn=>h.fr.keep r hr fun b o d ho hb hW=>hn b o d ho hb (h.es.wr _ hW)⟩,h.rel⟩
theorem SimA.refl {R:Ren} {H:EH} {w:World} (hw:WF H) (hr:Rel R All H w):SimA R R H H w w:=(Sim.refl hw hr).toA
theorem SimA.rel {R R':Ren} {H H':EH} {w w':World} (h:SimA R R' H H' w w'):Rel R' All H' w':=Rel.weak (Sim.rel h) fun _ _ => .inl trivial
theorem SimA.trans {R R1 R2:Ren} {A B C:EH} {w w1 w2:World} (h:SimA R R1 A B w w1) (k:SimA R1 R2 B C w1 w2):SimA R R2 A C w w2 :=
 (Sim.trans h ⟨k.es,k.rx,k.fr,Rel.weak (SimA.rel k) fun _ _=>trivial⟩).toA
theorem SimA.wf {R R':Ren} {H H':EH} {w w':World} (h:SimA R R' H H' w w'):WF H':=h.es.wf
theorem SimA.le {R R':Ren} {H H':EH} {w w':World} (h:SimA R R' H H' w w') (hr:Rel R All H w) (hf:Free R H H'):R.le R':=h.rx.le hf hr.img
theorem SimA.free {R R':Ren} {H H' H2:EH} {w w':World} (h:SimA R R' H H' w w') (hf:Free R H H2):Free R' H' H2:=fun b h1 h2=>by
 rw [h.rx.same b (by omega),h.rx.cz b (by omega)];exact hf b (Nat.le_trans h.es.next h1) h2
theorem Free.less {R:Ren} {H H1 H2:EH} (hf:Free R H H2) (h:H1.next≤H2.next):Free R H H1:=fun b h1 h2=>hf b h1 (by omega)
theorem Rel.world {R:Ren} {S:Nat→Prop} {H:EH} {w w':World} (h:Rel R S H w) (e:w'.heap=w.heap):Rel R S H w' :=
 ⟨fun b r d hb=>by rw [e];exact h.img b r d hb,fun b o r d ho hb=>(h.obj b o r d ho hb).mono (.refl R) hb (by rw [e]) id id,h.inj,fun a r cs q=>let ⟨⟨t,fz,h1⟩,h2⟩:=h.frz a r cs q;⟨⟨t,fz,by rw [e];exact h1⟩,h2⟩⟩
def FF:Option Nat→Fence
 | none=>Fence.wide
 | some r=>Fence.wide.inRound r
theorem rC (rr:Option Nat) (f:FuncId):(FF rr).fn f:=by cases rr<;>trivial
theorem uk (rr:Option Nat):(FF rr).depth=none:=by cases rr<;>rfl
theorem o8 (rr:Option Nat):(FF rr).round=rr:=by cases rr<;>rfl
theorem yw {rr:Option Nat} {n:Nat} {f:FuncId} {args:Array Value} {w:World} {Q:Ending→World→Prop} (h:CallsIn Fence.wide n P f args w Q):CallsIn (FF rr) n P f args w Q:=by
 cases rr with
 | none=>exact h
 | some r=>exact CallsIn.inRound r h
theorem Ap {rr:Option Nat} {n:Nat} {l:Nat} {f:FuncId} {tmps:Array Value} {as bd:Code} {w:World} {Q:Ending→World→Prop} (h:RoundIn Fence.wide n P l f tmps as bd w Q):RoundIn (FF rr) n P l f tmps as bd w Q:=by
 cases rr with
 | none=>exact h
 | some r=>exact h
def Ro (R:Ren):Option Nat→Option Nat→Prop
 | none,none=>True
 | some l,some r=>R.bm l=some (r,0)
 | _,_=>False
theorem Ro.mono {R R':Ren} (hle:R.le R'):∀ {ro rr:Option Nat},Ro R ro rr→Ro R' ro rr
 | none,none,_=>trivial
 | some _,some _,h=>hle.bm _ _ h
def QV (R:Ren) (H:EH) (v:V) (H':EH) (w:World):Ending→World→Prop:=fun e w'=>∃ x R',e = .returned x∧VR R' v x∧SimA R R' H H' w w'
def Upon (P:Program) (n:Nat) (Q:Ending→World→Prop):Next→World→Prop
 | .enter g as,w1=>CallsIn Fence.wide n P g as w1 Q
 | .round l f tmps as bd,w1=>RoundIn Fence.wide n P l f tmps as bd w1 Q
 | _,_=>False
def SpecCall (P:Program) (g:FuncId) (args:List V) (H:EH) (v:V) (H':EH):Prop :=
  H.next ≤ H'.next ∧ (∃ fn c, P.funcs[g]? = some fn ∧ fn.name ≠ "runtime.NumGoroutine" ∧ fn.body = some c) ∧
  ∀ R w args' n,Rel R All H w→WF H→Free R H H'→AL R args args'→CallsIn Fence.wide n P g args' w (QV R H v H' w)
def MI (P:Program) (fv:V) (args:List V) (H:EH) (v:V) (H':EH):Prop :=
 H.next≤H'.next ∧
 ∀ R w fv' args' n,Rel R All H w→WF H→Free R H H'→VR R fv fv'→AL R args args' →
  ∃ nx w1,(do let d←Deferred.ofValue fv' args';invoke d.target d.args:Sem Next).run P w = .ok nx w1∧Upon P n (QV R H v H' w) nx w1
def Res.H:Res→EH
 | .v _ H=>H
 | .normal _ H=>H
 | .exit _ _ H=>H
 | .ret _ H=>H
def ExitR (R:Ren):Res→Exit→Act→Prop
 | .normal a _,.normal,A=>AR R a A
 | .exit id a _,.exit id',A=>id'=id∧AR R a A
 | .ret a _,.ret,A=>AR R a A
 | _,_,_=>False
def PostC (R:Ren) (H:EH) (r:Res) (w:World):Exit→Act→World→Prop:=fun e A w'=>∃ R',SimA R R' H r.H w w'∧ExitR R' r e A
def wpM (m:Nat) (F:Fence) (n:Nat) (P:Program) (c:Code) (Q:Exit→Act→World→Prop) (A:Act) (w:World):Prop:=match c with
 | .loop body=>Code.roundsIn F n P body Q m A w
 | c=>c.wpIn F n P Q A w
theorem wpM.wp {m:Nat} {F:Fence} {n:Nat} {c:Code} {Q:Exit→Act→World→Prop} {A:Act} {w:World} (h:wpM m F n P c Q A w):c.wpIn F n P Q A w:=by
 cases c<;>first | exact h | exact wpIn_loop_rounds m h
def Ou (P:Program) (ro:Option Nat) (c:Code) (a:EA) (H:EH) (r:Res):Prop :=
 H.next≤r.H.next∧∃ m,∀ R w A n rr,Rel R All H w→WF H→Free R H r.H→AR R a A→Ro R ro rr→wpM m (FF rr) n P c (PostC R H r w) A w
def Spec (P:Program):Task→Res→Prop
 | .call g args H,r=>∃ v H',r = .v v H'∧SpecCall P g args H v H'
 | .callV fv args H,r=>∃ v H',r = .v v H'∧MI P fv args H v H'
 | .code ro c a H,r=>(∀ v H',r ≠ .v v H')∧Ou P ro c a H r
def dQ (P:Program) (f:Task→Option Res):Prop:=∀ t r,f t=some r→Spec P t r
theorem rH {ops:Array Oper} {R:Ren} {a:EA} {A:Act} {o:Oper} (hg':∀ g w o' d,o.guard=some (g,w)→ops[g]?=some o'→o'.dst=some d→VR R (getD' a.tm d) (A.tmps.getD d undef)) (h:dH ops a o.guard = .yes):Region.wanted o (yielded ops A.tmps)=true:=by
 unfold Region.wanted
 unfold dH at h
 cases hg:o.guard with
 | none=>rfl
 | some p =>
  obtain ⟨j,want⟩:=p
  rw [hg] at h
  simp only at h ⊢
  cases ho:ops[j]? with
  | none=>rw [ho] at h;cases h
  | some o' =>
   rw [ho] at h
   simp only at h
   cases hd:o'.dst with
   | none=>rw [hd] at h;cases h
   | some d =>
    rw [hd] at h
    simp only at h
    have hv:=hg' _ _ _ _ hg ho hd
    have e:a.get d=getD' a.tm d:=rfl
    rw [e] at h
    clear hg'
    generalize getD' a.tm d=v at h hv
    unfold yielded
    rw [ho]
    simp only [Option.bind_some,hd]
    cases v with
    | bool b =>
     have hx:A.tmps.getD d undef = .bool b:=by
      generalize A.tmps.getD d undef=z at hv ⊢
      cases hv;rfl
     have hb:b=want:=by
      cases b<;>cases want<;>first | rfl | cases h
     have hx':A.tmps[d]?=some (.bool b):=by
      rw [Array.getD_eq_getD_getElem?] at hx
      cases e':A.tmps[d]? with
      | none=>rw [e'] at hx;cases hx
      | some y=>rw [e'] at hx;simp only [Option.getD_some] at hx;rw [hx]
     rw [hx']
     subst hb
     cases b<;>rfl
    | _=>cases h
theorem vF {ops:Array Oper} {R:Ren} {a:EA} {A:Act} {o:Oper} (hg':∀ g w o' d,o.guard=some (g,w)→ops[g]?=some o'→o'.dst=some d→VR R (getD' a.tm d) (A.tmps.getD d undef)) (h:dH ops a o.guard = .no):Region.wanted o (yielded ops A.tmps)=false:=by
 unfold Region.wanted
 unfold dH at h
 cases hg:o.guard with
 | none=>rw [hg] at h;cases h
 | some p =>
  obtain ⟨j,want⟩:=p
  rw [hg] at h
  simp only at h ⊢
  cases ho:ops[j]? with
  | none=>rw [ho] at h;cases h
  | some o' =>
   rw [ho] at h
   simp only at h
   cases hd:o'.dst with
   | none=>rw [hd] at h;cases h
   | some d =>
    rw [hd] at h
    simp only at h
    have hv:=hg' _ _ _ _ hg ho hd
    have e:a.get d=getD' a.tm d:=rfl
    rw [e] at h
    clear hg'
    generalize getD' a.tm d=v at h hv
    unfold yielded
    rw [ho]
    simp only [Option.bind_some,hd]
    rw [Array.getD_eq_getD_getElem?] at hv
    cases e':A.tmps[d]? with
    | none=>rfl
    | some y =>
     rw [e'] at hv
     simp only [Option.getD_some] at hv
     cases hv with
     | bad=>cases h
     | bool b=>cases b<;>cases want<;>first | rfl | cases h
     | _=>rfl
theorem FB {ops:Array Oper} {R:Ren} {a:EA} {A:Act} (ha:AR R a A) {o:Oper} (h:dH ops a o.guard = .yes):Region.wanted o (yielded ops A.tmps)=true:=rH (fun _ _ _ d _ _ _=>ha.tm.val d) h
theorem Hm {ops:Array Oper} {R:Ren} {a:EA} {A:Act} (ha:AR R a A) {o:Oper} (h:dH ops a o.guard = .no):Region.wanted o (yielded ops A.tmps)=false:=vF (fun _ _ _ d _ _ _=>ha.tm.val d) h
theorem Ah {op:Op} {g:Operand} {args:Array Operand} (h:qi op = .heavy g args):∃ ts,op = .call ⟨.value g,args,ts⟩:=by
 cases op<;>try (cases h;done)
 rename_i c
 obtain ⟨callee,as,ts⟩:=c
 cases callee with
 | value f=>cases h;exact ⟨ts,rfl⟩
 | _=>cases h
theorem zQ (ρ:Operand→Value) (dst:Option Tmp) (g:Operand) (args:Array Operand) (ts:Array TypeId) (type:TypeId) (pos:String) (after:Array Edge) (guard:Option (Nat×Bool)) :
 execOp ρ ⟨dst,.call ⟨.value g,args,ts⟩,type,pos,after,guard⟩=(do let d←Deferred.ofValue (ρ g) (args.map ρ);invoke d.target d.args):=rfl
theorem F9 {f:Task→Option Res} (hs:dQ P f) {o:Oper} {a:EA} {H H':EH} {v:V} (h:mV P f a H o.op=some (v,H')) :
 H.next≤H'.next∧∀ R w A n rr,Rel R All H w→WF H→Free R H H'→AR R a A→∀ (K:Act→World→Prop) (Q:Exit→Act→World→Prop),
  (∀ R' w' x,VR R' v x→SimA R R' H H' w w'→K (A.put o.dst x) w')→o.wpIn (FF rr) n P A w K Q:=by
 unfold mV JM at h
 cases hk:qi o.op with
 | light =>
  rw [hk] at h
  have h:je o.op P a H=some (v,H'):=h
  refine ⟨Jg h,fun R w A n rr hr hw hf ha K Q hK=>⟨fun f _=>rC rr f,?_⟩⟩
  obtain ⟨W,nx,w',R',x,_,h2,h3,h4,h5⟩:=vK hr hw hf o hk (fun x _=>ha.eval x) h (fun _ _=>trivial)
  rw [o8,Oper.semAt_eq rr A.eval o (fun c e=>by rw [e] at h;cases h),h2]
  have:=hK R' w' x h4 h5.toA
  rcases h3 with rfl | ⟨rfl,rfl⟩
  ·exact this
  ·exact this
 | heavy g args =>
  rw [hk] at h
  obtain ⟨dst,op,type,pos,after,guard⟩:=o
  obtain ⟨ts,rfl⟩:=Ah hk
  have h:JP (f (.callV (a.eval g) (mapO a args.toList) H))=some (v,H'):=h
  cases hf:f (.callV (a.eval g) (mapO a args.toList) H) with
  | none=>rw [hf] at h;cases h
  | some r =>
   rw [hf] at h
   obtain ⟨v1,H1,rfl,hn,hc⟩:=hs _ _ hf
   cases h
   refine ⟨hn,fun R w A n rr hr hw hf ha K Q hK=>⟨fun f _=>rC rr f,?_⟩⟩
   obtain ⟨nx,w1,h1,h2⟩:=hc R w (A.eval g) (args.map A.eval) (n-1) hr hw hf (ha.eval g) (AL.mapO fun x _=>ha.eval x)
   rw [o8,Oper.semAt_eq rr A.eval _ (fun c e=>by cases e),zQ,h1]
   cases nx<;>first | exact h2.elim | skip
   ·exact ⟨(fun e=>by rw [uk] at e;cases e),(yw (P:=P) (rr:=rr) h2).mono fun e w2 ⟨x,R',e1,e2,e3⟩=>by subst e1;exact hK R' w2 x e2 e3⟩
   ·exact ⟨(fun e=>by rw [uk] at e;cases e),(Ap (P:=P) (rr:=rr) h2).mono fun e w2 ⟨x,R',e1,e2,e3⟩=>by subst e1;exact hK R' w2 x e2 e3⟩
theorem Af {f:Task→Option Res} (hs:dQ P f) (ops:Array Oper):∀ (l:List Oper) (a:EA) (H:EH) (r:Res),qw P f ops l a H=some r →
 ∃ a' H',r = .normal a' H'∧H.next≤H'.next∧∀ R w A n rr,Rel R All H w→WF H→Free R H H'→AR R a A→∀ (Q:Exit→Act→World→Prop),
  (∀ R' w' A',AR R' a' A'→SimA R R' H H' w w'→Q .normal A' w')→wpListIn (FF rr) n P ops Q l A w:=by
 intro l
 induction l with
 | nil =>
  intro a H r h
  cases h
  exact ⟨a,H,rfl,Nat.le_refl _,fun R w A n rr hr hw _ ha Q hQ=>hQ R w A ha (.refl hw hr)⟩
 | cons o l ih =>
  intro a H r h
  have h:(match dH ops a o.guard with
   | .yes=>Ju (qw P f ops l) o.dst a (mV P f a H o.op)
   | .no=>qw P f ops l (a.put o.dst skp) H
   | .unk=>none)=some r:=h
  cases hwt:dH ops a o.guard with
  | yes =>
   rw [hwt] at h
   simp only at h
   cases ho:mV P f a H o.op with
   | none=>rw [ho] at h;cases h
   | some p =>
    obtain ⟨v,H1⟩:=p
    rw [ho] at h
    obtain ⟨n1,k1⟩:=F9 hs ho
    obtain ⟨a',H',rfl,n2,k2⟩:=ih _ _ _ h
    refine ⟨a',H',rfl,Nat.le_trans n1 n2,fun R w A n rr hr hw hf ha Q hQ=>?_⟩
    show if _ then _ else _
    rw [if_pos (FB ha hwt)]
    refine k1 R w A n rr hr hw (hf.less n2) ha _ _ fun R1 w1 x hx hsim=>?_
    refine k2 R1 w1 _ n rr hsim.rel hsim.wf (hsim.free hf) ((ha.mono (hsim.le hr (hf.less n2))).put _ hx) Q fun R' w' A' ha' hsim'=>?_
    exact hQ R' w' A' ha' (hsim.trans hsim')
  | no =>
   rw [hwt] at h
   simp only at h
   obtain ⟨a',H',rfl,n2,k2⟩:=ih _ _ _ h
   refine ⟨a',H',rfl,n2,fun R w A n rr hr hw hf ha Q hQ=>?_⟩
   show if _ then _ else _
   rw [if_neg (by rw [Hm ha hwt];simp)]
   exact ⟨fun f _=>rC rr f,k2 R w _ n rr hr hw hf (ha.put _ (VR.skp R)) Q hQ⟩
  | unk=>rw [hwt] at h;cases h
end Go.Ev
/- Calls: a function's body, its way out; rounds of a range over a function. -/
namespace Go.Ev
open Go
variable {P:Program}
theorem WU.put {w:World} {r:Nat} {o0:Obj} (h:w.heap[r]?=some o0) (o:Obj):WU w r o (w.putObj r o):=by
 have hlt:r<w.heap.size:=by
  rcases Nat.lt_or_ge r w.heap.size with h' | h'
  ·exact h'
  ·rw [Array.getElem?_eq_none h'] at h;cases h
 exact ⟨by simp,World.putObj_heap_same hlt,fun r' e=>World.putObj_heap_other e,rfl,rfl,rfl⟩
theorem WA.alloc (w:World) (o:Obj):WA w o (w.alloc o):=WA.push w o
theorem VD {R:Ren} {H:EH} {w:World} (hr:Rel R All H w) {b r d:Nat} {o:Bool} (h:H.objs.get b=some (.dfr o)) (hm:R.bm b=some (r,d)):d=0∧w.heap[r]?=some (.deferred (if o then some [] else none)):=by
 obtain ⟨e,x,h1,h2⟩:=hr.obj b _ r d h hm
 exact ⟨e,by rw [h1,h2 trivial]⟩
theorem uu {R:Ren} {H:EH} {w:World} (hr:Rel R All H w) {l r d:Nat} {st:LoopState} {pend:Option Code} {tm:T V} {n:Nat} {ps:Array Tmp} {as bd:Code} {df:Nat}
 (h:H.objs.get l=some (.loop st pend tm n ps as bd df)) (hm:R.bm l=some (r,d)) :
 d=0∧∃ L,w.heap[r]?=some (.loop L)∧L.state=st∧L.pending=pend∧L.params=ps∧L.assign=as∧L.body=bd∧TR R tm n L.tmps∧R.bm df=some (L.defers,0):=by
 obtain ⟨e,L,h1,h2⟩:=hr.obj l _ r d h hm
 exact ⟨e,L,h1,h2 trivial⟩
theorem nS {R:Ren} {H:EH} {w:World} (hr:Rel R All H w) (hw:WF H) {l r:Nat} {st:LoopState} {pend:Option Code} {tm:T V} {n:Nat} {ps:Array Tmp} {as bd:Code} {df:Nat}
 (h:H.objs.get l=some (.loop st pend tm n ps as bd df)) (hm:R.bm l=some (r,0)) {L:Loop} (hL:w.heap[r]?=some (.loop L)) (h1:L.params=ps) (h2:L.assign=as) (h3:L.body=bd) (h4:TR R tm n L.tmps) (h5:R.bm df=some (L.defers,0))
 (st':LoopState) (pend':Option Code) :
 SimA R R H (dZ H l st' pend' tm n ps as bd df) w (w.putObj r (.loop { L with state:=st',pending:=pend' })):=by
 have hu:=WU.put hL (.loop { L with state:=st',pending:=pend' })
 exact (wZ hr hw h hm (by show (2:Nat)≠0;omega) (o' := .loop st' pend' tm n ps as bd df) rfl _ ⟨rfl,_,hu.neu,fun _=>⟨rfl,rfl,h1,h2,h3,h4,h5⟩⟩ hu).toA
theorem Ff (r : Nat) (l : List Nat) (H : EH) : closeD (r :: l) H = (match H.objs.get r with
      | some (.dfr true) => closeD l ⟨H.objs.set r (.dfr false), H.next, H.grps, bW H.low r⟩
      | _ => none) := rfl
theorem vW {fn:Func} {tmps:Array Value} {Rq:Ending→World→Prop} {n:Nat}:∀ (l:List Nat) (H H':EH),closeD l H=some H'→H'.next=H.next ∧
 ∀ R w ds,Rel R All H w→WF H→DR R l ds→(∀ w',SimA R R H H' w w'→LeavesInM Fence.wide n P fn tmps Rq [] .returning w')→LeavesInM Fence.wide n P fn tmps Rq ds .returning w:=by
 intro l
 induction l with
 | nil =>
  intro H H' h
  have h:some H=some H':=h
  cases h
  refine ⟨rfl,fun R w ds hr hw hd k=>?_⟩
  cases ds with
  | nil=>exact k w (.refl hw hr)
  | cons d ds=>exact hd.elim
 | cons b l ih =>
  intro H H' h
  rw [Ff] at h
  split at h
  ·rename_i hb
   obtain ⟨e,k⟩:=ih _ _ h
   refine ⟨e,fun R w ds hr hw hd hk=>?_⟩
   cases ds with
   | nil=>exact hd.elim
   | cons d ds =>
    obtain ⟨⟨r,hm,rfl⟩,hd⟩:=hd
    obtain ⟨_,h1⟩:=VD hr hb hm
    have hu:=WU.put h1 (.deferred none)
    have hs:=(wZ hr hw hb hm (by show (3:Nat)≠0;omega) (o' := .dfr false) rfl _ ⟨rfl,_,hu.neu,fun _=>rfl⟩ hu).toA
    exact ⟨by simp,.inl ⟨r,_,rfl,run_takeDeferred h1,k R _ ds hs.rel hs.wf hd fun w' hs'=>hk w' (hs.trans hs')⟩⟩
  ·cases h
def TG (tmps:Array Value):ResultVar→Sem Value
 | .tmp t=>pure (tmps.getD t undef)
 | .cell a t=>do loadVar t (← asAddr (tmps.getD a undef))
theorem IY (fn:Func) (tmps:Array Value):results fn tmps=(do let vs←fn.results.mapM (TG tmps);pure (if h:vs.size=1 then vs[0] else .tuple vs)):=rfl
theorem zi (a : EA) (H : EH) (r : ResultVar) (l : List ResultVar) : lW P a H (r :: l) = (match JE P a H r with
      | some v => match lW P a H l with | some l => some (v :: l) | none => none
      | none => none) := rfl
theorem res_one {R:Ren} {H:EH} {w:World} (hr:Rel R All H w) {a:EA} {tmps:Array Value} (ht:TR R a.tm a.n tmps) {r:ResultVar} {v:V} (h:JE P a H r=some v):∃ x,(TG tmps r).run P w = .ok x w∧VR R v x:=by
 cases r with
 | tmp t=>cases h;exact ⟨_,rfl,ht.val t⟩
 | cell d t =>
  have h:(match a.get d with | .ptr b off=>H.loadVar P t b off | _=>none)=some v:=h
  have hv:=ht.val d
  have e:a.get d=getD' a.tm d:=rfl
  rw [e] at h
  split at h
  ·rename_i b off e2
   rw [e2] at hv
   show ∃ x,(do loadVar t (← asAddr (tmps.getD d undef)):Sem Value).run P w = .ok x w∧VR R v x
   generalize tmps.getD d undef=y at hv ⊢
   cases hv with
   | ptr hm ho =>
    obtain ⟨x,h1,h2⟩:=oL (P:=P) hr h hm ho (fun _ _=>trivial)
    exact ⟨x,h1,h2⟩
  ·cases h
theorem PT {R:Ren} {H:EH} {w:World} (hr:Rel R All H w) {a:EA} {tmps:Array Value} (ht:TR R a.tm a.n tmps):∀ (l:List ResultVar) (vs:List V),lW P a H l=some vs →
 ∃ xs:List Value,(l.mapM (TG tmps)).run P w = .ok xs w∧vs.length=xs.length∧∀ i (h1:i<vs.length) (h2:i<xs.length),VR R vs[i] xs[i]:=by
 intro l
 induction l with
 | nil=>intro vs h;cases h;exact ⟨[],rfl,rfl,fun i h1=>by simp at h1⟩
 | cons r l ih =>
  intro vs h
  rw [zi] at h
  split at h
  ·rename_i v hv
   split at h
   ·rename_i vs' hvs
    cases h
    obtain ⟨x,e1,e2⟩:=res_one hr ht hv
    obtain ⟨xs,e3,e4,e5⟩:=ih _ hvs
    refine ⟨x::xs,?_,by simp [e4],fun i h1 h2=>?_⟩
    ·rw [List.mapM_cons,run_bind_ok e1,run_bind_ok e3];rfl
    ·cases i with
     | zero=>exact e2
     | succ i=>exact e5 i (by simpa using h1) (by simpa using h2)
   ·cases h
  ·cases h
theorem NF {R:Ren} {H:EH} {w:World} (hr:Rel R All H w) {a:EA} {tmps:Array Value} (ht:TR R a.tm a.n tmps) {fn:Func} {vs:List V} (h:lW P a H fn.results.toList=some vs):∃ x,(results fn tmps).run P w = .ok x w∧VR R (resV vs) x:=by
 obtain ⟨xs,h1,h2,h3⟩:=PT hr ht _ _ h
 rw [IY,Array.mapM_eq_mapM_toList,run_bind_ok (show (List.toArray <$> fn.results.toList.mapM (TG tmps)).run P w = .ok xs.toArray w by rw [Sem.run_map,h1];rfl)]
 refine ⟨_,rfl,?_⟩
 match vs,xs,h2,h3 with
 | [],[],_,_=>exact .tup rfl (fun i h1 _=>by simp at h1)
 | [v],[x],_,h3=>exact h3 0 (by simp) (by simp)
 | v::v'::vs,x::x'::xs,h2,h3 =>
  rw [dif_neg (by simp)]
  exact .tup (by simpa using h2) (fun i h1 h2=>by simpa using h3 i h1 (by simpa using h2))
theorem Gn {fn:Func} {a:EA} {H:EH} {r:Res} (h:leave P fn a H=some r):∃ v H',r = .v v H'∧H.next≤H'.next ∧
 ∀ R w A n,Rel R All H w→WF H→AR R a A→∀ Rq:Ending→World→Prop,(∀ x w',VR R v x→SimA R R H H' w w'→Rq (.returned x) w')→LeavesInM Fence.wide n P fn A.tmps Rq A.defers .returning w:=by
 unfold leave at h
 split at h
 ·rename_i H' hc
  split at h
  ·rename_i l hl
   cases h
   refine ⟨_,_,rfl,Nat.le_of_eq (vW (P:=P) (fn:=fn) (tmps:=#[]) (Rq:=fun _ _=>True) (n:=0) _ _ _ hc).1.symm,fun R w A n hr hw ha Rq k=>?_⟩
   refine (vW (P:=P) (fn:=fn) (tmps:=A.tmps) (Rq:=Rq) (n:=n) _ _ _ hc).2 R w _ hr hw ha.df fun w' hs=>?_
   obtain ⟨x,h1,h2⟩:=NF hs.rel ha.tm hl
   exact ⟨x,h1,k x w' h2 hs⟩
  ·cases h
 ·cases h
theorem F6:∀ (l:List V) (i:Nat),Uw l i=l[i]?
 | [],_=>rfl
 | _::_,0=>rfl
 | _::l,i+1=>F6 l i
theorem A7 (s:Bool) (args:List V) (i:Nat):(gJ s args).get i=args[i]?:=by
 cases s with
 | false =>
  show (T.setL .lf 0 args).get i=_
  rw [T.get_setL]
  by_cases h:i<args.length
  ·rw [if_pos (by omega)];rfl
  ·rw [if_neg (by omega),List.getElem?_eq_none (by omega)];rfl
 | true=>exact F6 args i
theorem AR.enter {s:Bool} {R:Ren} {args:List V} {args':Array Value} (h:AL R args args') {n:Nat} (hn:args.length≤n):AR R ⟨gJ s args,n,[]⟩ { tmps:=args'++Array.replicate (n-args'.size) undef,defers:=[] }:=by
 have hl:=h.1
 refine ⟨⟨by simp;omega,fun i hi=>?_,fun i=>?_⟩,trivial⟩
 ·show (gJ s args).get i=none
  have hi:n≤i:=hi
  rw [A7,List.getElem?_eq_none (by omega)]
 ·show VR R (getD' (gJ s args) i) _
  unfold getD'
  rw [A7]
  by_cases hi:i<args.length
  ·have h2:i<args'.size:=by omega
   rw [List.getElem?_eq_getElem hi]
   have:(args'++Array.replicate (n-args'.size) undef).getD i undef=args'[i]:=by
    rw [Array.getD_eq_getD_getElem?,Array.getElem?_append_left h2,Array.getElem?_eq_getElem h2];rfl
   rw [this]
   exact h.2 i hi h2
  ·rw [List.getElem?_eq_none (by omega)]
   exact .bad _
theorem nD {s:Bool} {f:Task→Option Res} (hs:dQ P f) {g:FuncId} {args:List V} {H:EH} {r:Res} (h:mY P s f g args H=some r):Spec P (.call g args H) r:=by
  unfold mY at h
  split at h
  · rename_i fn hfn
    rw [cond_eq_ite] at h
    split at h
    · cases h
    · rename_i hname
      unfold Pv at h
      split at h
      · rename_i c hc
        rw [bg] at h
        split at h
        · rename_i hlen
          rw [Cc] at hlen
          cases hb:f (.code none c ⟨gJ s args,fn.ntmps,[]⟩ H) with
          | none=>rw [hb] at h;cases h
          | some rb =>
            rw [hb] at h
            obtain ⟨_,hn,m,hm⟩:=hs _ _ hb
            have hname' : fn.name ≠ "runtime.NumGoroutine" := by simpa using hname
            have key:∀ a H1,(rb = .normal a H1∨rb = .ret a H1)→leave P fn a H1=some r→Spec P (.call g args H) r:=by
              intro a H1 hrb hl
              obtain ⟨v,H',rfl,n2,k⟩:=Gn hl
              have hH:rb.H=H1:=by rcases hrb with rfl | rfl<;>rfl
              rw [hH] at hn
              refine ⟨v,H',rfl,Nat.le_trans hn n2,⟨fn,c,hfn,hname',hc⟩,fun R w args' n hr hw hf ha=>?_⟩
              refine callsIn_of_wp_marks hfn hc trivial ?_
              refine wpIn_mono (wpM.wp (hm R w _ n none hr hw (by rw [hH];exact hf.less n2) (AR.enter ha hlen) trivial)) fun e A w' ⟨R',hsim,hex⟩=>?_
              rw [hH] at hsim
              have fin:AR R' a A→LeavesInM Fence.wide n P fn A.tmps (QV R H v H' w) A.defers .returning w':=fun ha' =>
                k R' w' A n hsim.rel hsim.wf ha' _ fun x w'' hx hs'=>⟨x,R',rfl,hx,hsim.trans hs'⟩
              rcases hrb with rfl | rfl
              · cases e<;>first | exact hex.elim | exact fin hex
              · cases e<;>first | exact hex.elim | exact fin hex
            cases rb with
            | normal a H1=>exact key a H1 (.inl rfl) h
            | ret a H1=>exact key a H1 (.inr rfl) h
            | _=>cases h
        · cases h
      · cases h
  · cases h
end Go.Ev
/- Calls of function values; rounds of a range over a function. -/
namespace Go.Ev
open Go
variable {P:Program}
theorem uw {g : FuncId} {fn : Func} {c : Code} (h1 : P.funcs[g]? = some fn) (h2 : fn.name ≠ "runtime.NumGoroutine") (h3 : fn.body = some c) (args : Array Value) (w : World) : (callFunc g args).run P w = .ok (.enter g args) w := by
  unfold callFunc
  rw [run_bind_ok (show (program).run P w = .ok P w from rfl)]
  simp only [h1]
  rw [if_neg (by simpa using h2),if_neg (by simp [h3])]
  rfl
theorem AL.app3 {R:Ren} {a b c:List V} {a' b' c':Array Value} (h1:AL R a a') (h2:AL R b b') (h3:AL R c c'):AL R (app3 a b c) (a'++b'++c'):=by
 rw [Array.append_assoc]
 exact h1.append (h2.append h3)
theorem CP (n:Nat) (p:Tmp) (ps:List Tmp) (v:V) (vs:List V) (tm:T V):mW n (p::ps) (v::vs) tm=cond (Nat.blt p n) (mW n ps vs (tm.set p v)) none:=rfl
theorem DT {R:Ren} {n:Nat}:∀ (ps:List Tmp) (vs:List V) (xs:List Value) (tm tm':T V) (tmps:Array Value),TR R tm n tmps→vs.length=xs.length→(∀ i (h1:i<vs.length) (h2:i<xs.length),VR R vs[i] xs[i])→mW n ps vs tm=some tm' →
 ps.length=xs.length∧TR R tm' n ((ps.zip xs).foldl (fun tmps p=>tmps.setIfInBounds p.1 p.2) tmps):=by
 intro ps
 induction ps with
 | nil =>
  intro vs xs tm tm' tmps ht hl _ h
  cases vs with
  | nil =>
   have h:some tm=some tm':=h
   cases h
   cases xs with
   | nil=>exact ⟨rfl,ht⟩
   | cons x xs=>simp at hl
  | cons v vs=>cases h
 | cons p ps ih =>
  intro vs xs tm tm' tmps ht hl hv h
  cases vs with
  | nil=>cases h
  | cons v vs =>
   cases xs with
   | nil=>simp at hl
   | cons x xs =>
    rw [CP,dB] at h
    split at h
    ·rename_i hp
     obtain ⟨e1,e2⟩:=ih vs xs _ _ _ (ht.set hp (hv 0 (by simp) (by simp))) (by simpa using hl) (fun i h1 h2=>hv (i+1) (by simpa using h1) (by simpa using h2)) h
     exact ⟨by simp [e1],e2⟩
    ·cases h
theorem zn {R:Ren} {n:Nat} {ps:Array Tmp} {vs:List V} {xs:Array Value} {tm tm':T V} {tmps:Array Value} (ht:TR R tm n tmps) (hv:AL R vs xs) (h:mW n ps.toList vs tm=some tm') :
 xs.size=ps.size∧TR R tm' n ((ps.zip xs).foldl (fun tmps (t,a)=>tmps.setIfInBounds t a) tmps):=by
 obtain ⟨e1,e2⟩:=DT ps.toList vs xs.toList tm tm' tmps ht (by simpa using hv.1) (fun i h1 h2=>by simpa using hv.2 i h1 (by simpa using h2)) h
 refine ⟨by simpa using e1.symm,?_⟩
 rw [← Array.foldl_toList,Array.toList_zip]
 exact e2
theorem II {l:Nat} {jump:Option Code} {H:EH} {r:Res} (h:Nz l jump jump.isNone H=some r):∃ v H',r = .v v H'∧H'.next=H.next ∧
 ∀ R w lr,Rel R All H w→WF H→R.bm l=some (lr,0)→∃ x w',(Instr.endRound lr jump).run P w = .ok x w'∧VR R v x∧SimA R R H H' w w':=by
 unfold Nz at h
 split at h
 ·rename_i st pend tm n ps as bd df hl
  cases h
  refine ⟨_,_,rfl,rfl,fun R w lr hr hw hm=>?_⟩
  obtain ⟨_,L,h1,_,_,h4,h5,h6,h7,h8⟩:=uu hr hl hm
  refine ⟨_,_,run_endRound jump h1,.bool _,?_⟩
  have:=nS hr hw hl hm h1 h4 h5 h6 h7 h8 (cond jump.isNone .ready .done) jump
  rw [cond_eq_ite] at this ⊢
  exact this
 ·cases h
theorem FU {f:Task→Option Res} (hs:dQ P f) {l:Nat} {args:List V} {H:EH} {r:Res} (h:rQ f l args H=some r):Spec P (.callV (.yld l) args H) r:=by
 unfold rQ at h
 split at h
 ·rename_i st0 pend0 tm n0 ps as bd df0 hl0
  split at h
  ·rename_i tm' hput
   cases h1:f (.code (some l) as ⟨tm',n0,[]⟩ H) with
   | none=>rw [h1] at h;cases h
   | some r1 =>
    rw [h1] at h
    obtain ⟨_,hn1,m1,hm1⟩:=hs _ _ h1
    unfold P7 at h
    split at h
    ·rename_i _ a1 H1 heq
     cases heq
     split at h
     ·rename_i pend tm1 n1 ps1 as1 bd1 df1 hl1
      cases h2:f (.code (some l) bd a1 (dZ H1 l .busy pend tm1 n1 ps1 as1 bd1 df1)) with
      | none=>rw [h2] at h;cases h
      | some r2 =>
       rw [h2] at h
       obtain ⟨_,hn2,m2,hm2⟩:=hs _ _ h2
       have hn2:H1.next≤r2.H.next:=hn2
       have key:∀ jump,Nz l jump jump.isNone r2.H=some r →
        (∀ R e A w lr Q,ExitR R r2 e A→(∃ x w',(Instr.endRound lr jump).run P w = .ok x w'∧Q (Ending.returned x) w')→roundPost P lr Q e A w)→Spec P (.callV (.yld l) args H) r:=by
        intro jump hend hpost
        obtain ⟨v,H',rfl,en,hE⟩:=II (P:=P) hend
        refine ⟨v,H',rfl,by have hn1':H.next≤H1.next:=hn1;omega,fun R w fv' args' n hr hw hf hv ha=>?_⟩
        have hn1':H.next≤H1.next:=hn1
        cases hv with
        | yld hm =>
         rename_i lr
         obtain ⟨_,L,g1,_,_,g4,g5,g6,g7,g8⟩:=uu hr hl0 hm
         subst g4;subst g5;subst g6
         obtain ⟨hsz,htr⟩:=zn g7 ha hput
         have hrun:(do let d←Deferred.ofValue (.func (.yield lr) #[] #[]) args';invoke d.target d.args:Sem Next).run P w=(Instr.yield lr (#[]++args')).run P w:=rfl
         refine ⟨_,_,by rw [hrun,Array.empty_append];exact run_yield g1 hsz,?_⟩
         refine roundIn_of_wpIn trivial ?_
         refine wpIn_mono (wpM.wp (hm1 R w { tmps:=_,defers:=[] } n (some lr) hr hw (hf.less (by show H1.next≤_;omega)) ⟨htr,trivial⟩ hm)) fun e A1 w1 ⟨R1,sim1,hex⟩=>?_
         cases e<;>try exact hex.elim
         have hle1:=sim1.le hr (hf.less (by show H1.next≤_;omega))
         have hm':R1.bm l=some (lr,0):=hle1.bm _ _ hm
         obtain ⟨_,L1,q1,q2,q3,q4,q5,q6,q7,q8⟩:=uu sim1.rel hl1 hm'
         refine ⟨_,run_beginRound q1 q2,?_⟩
         have simB:=nS sim1.rel sim1.wf hl1 hm' q1 q4 q5 q6 q7 q8 .busy pend
         subst q3
         have hfB:Free R1 (dZ H1 l .busy L1.pending tm1 n1 ps1 as1 bd1 df1) H':=sim1.free hf
         refine wpIn_mono (wpM.wp (hm2 R1 _ A1 n (some lr) simB.rel simB.wf (hfB.less (by omega)) hex hm')) fun e A2 w2 ⟨R2,sim2,hex2⟩=>?_
         have hle2:=sim2.le simB.rel (hfB.less (by omega))
         refine hpost R2 e A2 w2 lr _ hex2 ?_
         obtain ⟨x,w',k1,k2,k3⟩:=hE R2 w2 lr sim2.rel sim2.wf (hle2.bm _ _ hm')
         exact ⟨x,w',k1,x,R2,rfl,k2,((sim1.trans simB).trans sim2).trans k3⟩
       unfold fM at h
       split at h
       ·rename_i a2 H2 heq
        cases heq
        exact key none h fun R e A w lr Q hex hq=>by cases e<;>first | exact hex.elim | exact hq
       ·rename_i a2 H2 heq
        cases heq
        exact key (some .ret) h fun R e A w lr Q hex hq=>by cases e<;>first | exact hex.elim | exact hq
       ·rename_i id a2 H2 heq
        cases heq
        exact key (some (.exit id)) h fun R e A w lr Q hex hq=>by cases e<;>first | exact hex.elim | (obtain ⟨rfl,_⟩:=hex;exact hq)
       ·cases h
     ·cases h
    ·cases h
  ·cases h
 ·cases h
theorem Ei {f:Task→Option Res} (hs:dQ P f) {fv:V} {args:List V} {H:EH} {r:Res} (h:wM f fv args H=some r):Spec P (.callV fv args H) r:=by
 unfold wM at h
 split at h
 ·rename_i g first captured
  obtain ⟨v,H',rfl,hn,⟨fn,c,c1,c2,c3⟩,hc⟩:=hs _ _ h
  refine ⟨v,H',rfl,hn,fun R w fv' args' n hr hw hf hv ha=>?_⟩
  cases hv with
  | func hl hv hm hv' =>
   rename_i l' m'
   refine ⟨_,_,uw c1 c2 c3 (l'++args'++m') w,?_⟩
   exact hc R w _ n hr hw hf (AL.app3 ⟨hl,hv⟩ ha ⟨hm,hv'⟩)
 ·exact FU hs h
 ·cases h
end Go.Ev
/- Loops over a map: the states, what is kept of them, and which state follows which. -/
namespace Go.Ev
open Go
variable {P:Program}
theorem Ld (a b:Nat):bW a b≤a∧bW a b≤b:=by rw [gW];omega
theorem Q4 (i:Nat) (t:T EO):Dw [] i t=t:=rfl
theorem MZ (o:Option EO) (l:List (Option EO)) (i:Nat) (t:T EO):Dw (o::l) i t=Dw l (i+1) (match o with | some o=>t.set i o | none=>t):=rfl
theorem Fe:∀ (l:List (Option EO)) (i b:Nat) (t:T EO),(Dw l i t).get b=if i≤b∧b<i+l.length then (match l[b-i]? with | some (some o)=>some o | _=>t.get b) else t.get b:=by
 intro l
 induction l with
 | nil=>intro i b t;rw [Q4,if_neg (by simp)]
 | cons o l ih =>
  intro i b t
  rw [MZ,ih]
  have hg:∀ x,x≠i→(match o with | some o=>t.set i o | none=>t).get x=t.get x:=fun x hx=>by
   cases o with
   | none=>rfl
   | some o=>exact T.get_set_ne _ _ hx
  by_cases h:i+1≤b∧b<i+1+l.length
  ·rw [if_pos h,if_pos (by simp;omega),hg b (by omega)]
   obtain ⟨d,rfl⟩:∃ d,b=i+1+d:=⟨b-(i+1),by omega⟩
   rw [show i+1+d-(i+1)=d by omega,show i+1+d-i=d+1 by omega]
   rfl
  ·rw [if_neg h]
   by_cases e:b=i
   ·subst e
    rw [if_pos (by simp)]
    simp only [Nat.sub_self,List.getElem?_cons_zero]
    cases o with
    | none=>rfl
    | some o=>exact T.get_set_eq _ _ _
   ·rw [if_neg (by simp;omega),hg b e]
theorem IX (n:Nat) (objs:T EO) (b:Nat):yY n objs 0 b=some []:=rfl
theorem Jn (n:Nat) (objs:T EO) (k b:Nat):yY n objs (k+1) b=(match yY n objs k (b+1) with
 | none=>none
 | some l=>match objs.get b with
  | none=>some (none::l)
  | some o=>cond (DD n o) (fO o fun o=>some (some o::l)) none):=rfl
theorem U3 {β:Type}:∀ (l:List (V×V×Nat)) (k:List (V×V×Nat)→β),fE l k=k l
 | [],_=>rfl
 | x::l,k=>by show fE l (fun l=>k (x::l))=_;rw [U3 l]
theorem X7 {β:Type} (o:EO) (k:EO→β):fO o k=k (iQ o):=by
 cases o<;>first | rfl | exact U3 _ _
theorem y8 (b:Nat) (o:EO):aG b (iQ o)=aG b o:=by cases o<;>rfl
theorem xh (o:EO):bn (iQ o)=bn o:=by cases o<;>rfl
theorem yX {b:Nat} {o:EO} (h:aG b o≠b):iQ o=o:=by cases o<;>first | rfl | exact absurd rfl h
theorem Bq (e:V×V×Nat):∀ l:List (V×V×Nat),(Ui e l).Perm (e::l)
 | [] => .refl _
 | x::l=>by
  have h:Ui e (x::l)=(match XU e.1 x.1 with | 2=>x::Ui e l | _=>e::x::l):=rfl
  rw [h]
  split
  ·exact ((Bq e l).cons x).trans (.swap e x l)
  ·exact .refl _
theorem yE:∀ l:List (V×V×Nat),(GH l).Perm (l.map fun e=>(e.1,e.2.1,0))
 | [] => .refl _
 | e::l=>(Bq (e.1,e.2.1,0) (GH l)).trans ((yE l).cons _)
theorem MR.sort {R:Ren} {es:List (V×V×Nat)} {es':List MapEntry} {clk:Nat} (h:MR R es es' clk):MR R (GH es) es' clk:=by
 obtain ⟨⟨z,h1,h2,h3⟩,h4,h5⟩:=h
 obtain ⟨z2,e1,e2⟩:=Bv (f:=Prod.fst) (yE es).symm (z.map fun p=>(((p.1.1,p.1.2.1,0),p.2):EE)) (by rw [← h1,List.map_map,List.map_map];rfl)
 refine ⟨⟨z2,e2,((e1.map Prod.snd).symm).trans (by rw [List.map_map];exact h2),fun p hp=>?_⟩,h4,h5⟩
 obtain ⟨q,hq,rfl⟩:=List.mem_map.1 (e1.mem_iff.2 hp)
 exact h3 q hq
theorem OR.norm {R:Ren} {s:Prop} {vd:Bool} {o:EO} {r d:Nat} {w:World} (h:OR R s vd o r d w):OR R s vd (iQ o) r d w:=by
 cases o with
 | map es clk=>obtain ⟨e,es',clk',h1,h2⟩:=h;exact ⟨e,es',clk',h1,fun a=>⟨(h2 a).1,(h2 a).2.sort⟩⟩
 | _=>exact h
theorem IC {n:Nat} {objs:T EO}:∀ {k b:Nat} {l:List (Option EO)},yY n objs k b=some l →
 l.length=k∧∀ j,j<k→l[j]?=some ((objs.get (b+j)).map iQ)∧∀ o,objs.get (b+j)=some o→DD n o=true:=by
 intro k
 induction k with
 | zero=>intro b l h;rw [IX] at h;cases h;exact ⟨rfl,fun j hj=>by omega⟩
 | succ k ih =>
  intro b l h
  rw [Jn] at h
  cases h1:yY n objs k (b+1) with
  | none=>rw [h1] at h;cases h
  | some l1 =>
   rw [h1] at h
   simp only at h
   obtain ⟨e1,e2⟩:=ih h1
   have fin:∀ x,objs.get b=x→(∀ o,x=some o→DD n o=true)→l=x.map iQ::l1→l.length=k+1∧∀ j,j<k+1→l[j]?=some ((objs.get (b+j)).map iQ)∧∀ o,objs.get (b+j)=some o→DD n o=true:=by
    intro x hx ho hl
    subst hl
    refine ⟨by simp [e1],fun j hj=>?_⟩
    cases j with
    | zero=>exact ⟨by rw [Nat.add_zero,hx];rfl,fun o h=>ho o (by rw [← hx];exact h)⟩
    | succ j =>
     have:=e2 j (by omega)
     rw [show b+(j+1)=b+1+j by omega]
     exact ⟨by rw [List.getElem?_cons_succ];exact this.1,this.2⟩
   cases h2:objs.get b with
   | none=>rw [h2] at h;cases h;exact fin none h2 (fun o e=>by cases e) rfl
   | some o =>
    rw [h2] at h
    simp only at h
    cases h3:DD n o with
    | false=>rw [h3] at h;cases h
    | true =>
     rw [h3] at h
     have h:fO o (fun o=>some (some o::l1))=some l:=h
     rw [X7] at h
     cases h;exact fin (some o) h2 (fun o' e=>by cases e;exact h3) rfl
theorem Ed (n:Nat) (base tm:T V) (k:Nat):oZ n base tm (k+1)=(oZ n base tm k).set k (qX n (getD' base k) (getD' tm k)):=rfl
theorem kL (n:Nat) (base tm:T V):∀ (k i:Nat),(oZ n base tm k).get i=if i<k then some (qX n (getD' base i) (getD' tm i)) else none:=by
 intro k
 induction k with
 | zero=>intro i;rw [if_neg (by omega)];rfl
 | succ k ih =>
  intro i
  rw [Ed,T.get_set,ih]
  by_cases e:i=k
  ·subst e;simp
  ·rw [if_neg e]
   by_cases h:i<k
   ·rw [if_pos h,if_pos (by omega)]
   ·rw [if_neg h,if_neg (by omega)]
structure Dn (n:Nat) (R R1:Ren):Prop where
 bm:∀ b,b<n→R1.bm b=R.bm b
 zs:∀ b r d,b<n→R.bm b=some (r,d)→R1.zs r=R.zs r
 cz:∀ a,a<n→R1.cz a=R.cz a
theorem VR.downA {n:Nat} {R R1:Ren} (hz:∀ a,a<n→R1.cz a=R.cz a) {v:V} {x:Value} (h:VR R1 v x) {b:Nat} (hb:b<n) (ha:Aged b v):VR R v x:=by
 induction h with
 | bool b=>exact .bool b
 | int k n=>exact .int k n
 | str s=>exact .str s
 | nilPtr=>exact .nilPtr
 | nilSlice=>exact .nilSlice
 | nilMap=>exact .nilMap
 | nilFunc=>exact .nilFunc
 | nilIface=>exact .nilIface
 | fzN=>exact .fzN
 | fzE h0=>exact .fzE h0
 | fz y hc hl hy hs hg _ h0 ih =>
  cases ha with
  | fz k h1 h2=>exact .fz y (by rw [← hz _ (Nat.lt_of_le_of_lt h1 hb)];exact hc) hl hy hs hg fun i j hi hj=>ih i j hi hj (h2 i j hi hj)
 | _=>cases ha
theorem dh {a b:Nat} (h:Nat.blt a b=true):a<b:=Nat.le_of_ble_eq_true h
theorem VR.down0 {n:Nat} {R R1:Ren} (hd:Dn n R R1) {v:V} {x:Value} (h:VR R1 v x) (ho:o9 n v=true):VR R v x:=by
 cases h with
 | bad v=>cases ho
 | bool b=>exact .bool b
 | int k n=>exact .int k n
 | str s=>exact .str s
 | nilPtr=>exact .nilPtr
 | ptr h e=>exact .ptr (by rw [← hd.bm _ (dh ho)];exact h) e
 | nilSlice=>exact .nilSlice
 | slice h h1 h2 h3 =>
  have hb:=dh ho
  rw [hd.bm _ hb] at h
  exact .slice h h1 h2 (by rw [← hd.zs _ _ _ hb h];exact h3)
 | nilMap=>exact .nilMap
 | map h=>exact .map (by rw [← hd.bm _ (dh ho)];exact h)
 | nilFunc=>exact .nilFunc
 | func=>cases ho
 | yld h=>exact .yld (by rw [← hd.bm _ (dh ho)];exact h)
 | nilIface=>exact .nilIface
 | agg=>cases ho
 | tup=>cases ho
 | fzN=>exact .fzN
 | fzE h0=>exact .fzE h0
 | fz y hc hl hy hs hg hv h0 =>
  have hb:=dh ho
  exact .fz y (by rw [← hd.cz _ hb];exact hc) hl hy hs hg fun i j hi hj=>(hv i j hi hj).downA hd.cz hb (hg i j hi hj)
 | fp y hc hy hs hg hv =>
  have hb:=dh ho
  exact .fp y (by rw [← hd.cz _ hb];exact hc) hy hs hg fun i hi=>(hv i hi).downA hd.cz hb (hg i hi)
theorem NZ {n:Nat} {l:List V} (h:KE n l=true):∀ i (hi:i<l.length),o9 n l[i]=true:=by
 induction l with
 | nil=>intro i hi;simp at hi
 | cons x l ih =>
  have h:cond (o9 n x) (KE n l) false=true:=h
  cases hx:o9 n x with
  | false=>rw [hx] at h;cases h
  | true =>
   rw [hx] at h
   intro i hi
   cases i with
   | zero=>exact hx
   | succ i=>exact ih h i (by simpa using hi)
theorem Om {n:Nat} {c:T V}:∀ {k i:Nat},Lc n c k i=true→∀ j,j<k→∃ v,c.get (i+j)=some v∧o9 n v=true:=by
 intro k
 induction k with
 | zero=>intro i h j hj;omega
 | succ k ih =>
  intro i h j hj
  have h:(match c.get i with | some v=>cond (o9 n v) (Lc n c k (i+1)) false | none=>false)=true:=h
  cases h1:c.get i with
  | none=>rw [h1] at h;cases h
  | some v =>
   rw [h1] at h
   simp only at h
   cases h2:o9 n v with
   | false=>rw [h2] at h;cases h
   | true =>
    rw [h2] at h
    cases j with
    | zero=>exact ⟨v,by rw [Nat.add_zero];exact h1,h2⟩
    | succ j=>rw [show i+(j+1)=i+1+j by omega];exact ih h j (by omega)
theorem VR.down0A {n:Nat} {R R1:Ren} (hd:Dn n R R1) {v:V} {x:Value} (h:VR R1 v x) (ho:Eu n v=true):VR R v x:=by
 cases v with
 | agg k c =>
  cases h with
  | agg g hn hg hs hv =>
   have ho:Lc n c k 0=true:=ho
   refine .agg g hn hg hs fun i hi=>(hv i hi).down0 hd ?_
   obtain ⟨v,e1,e2⟩:=Om ho i (by omega)
   rw [Nat.zero_add,hg i (by omega)] at e1
   cases e1;exact e2
 | _=>exact h.down0 hd ho
theorem Hf {n:Nat} {l:List V} (h:yx n l=true):∀ i (hi:i<l.length),Eu n l[i]=true:=by
 induction l with
 | nil=>intro i hi;simp at hi
 | cons x l ih =>
  have h:cond (Eu n x) (yx n l) false=true:=h
  cases hx:Eu n x with
  | false=>rw [hx] at h;cases h
  | true =>
   rw [hx] at h
   intro i hi
   cases i with
   | zero=>exact hx
   | succ i=>exact ih h i (by simpa using hi)
theorem VR.down1 {n:Nat} {R R1:Ren} (hd:Dn n R R1) {v:V} {x:Value} (h:VR R1 v x) (ho:uz n v=true):VR R v x:=by
 cases h with
 | func hl hv hm hv' =>
  rename_i f l m l' m'
  have ho:cond (yx n l) (KE n m) false=true:=ho
  cases h1:yx n l with
  | false=>rw [h1] at ho;cases ho
  | true =>
   rw [h1] at ho
   exact .func hl (fun i a b=>(hv i a b).down0A hd (Hf h1 i a)) hm (fun i a b=>(hv' i a b).down0 hd (NZ ho i a))
 | bad v=>cases ho
 | bool b=>exact .bool b
 | int k n=>exact .int k n
 | str s=>exact .str s
 | nilPtr=>exact .nilPtr
 | ptr h e=>exact VR.down0 hd (.ptr h e) ho
 | nilSlice=>exact .nilSlice
 | slice h h1 h2 h3=>exact VR.down0 hd (.slice h h1 h2 h3) ho
 | nilMap=>exact .nilMap
 | map h=>exact VR.down0 hd (.map h) ho
 | nilFunc=>exact .nilFunc
 | yld h=>exact VR.down0 hd (.yld h) ho
 | nilIface=>exact .nilIface
 | agg=>cases ho
 | tup=>cases ho
 | fzN=>exact .fzN
 | fzE h0=>exact .fzE h0
 | fz y hc hl hy hs hg hv h0=>exact VR.down0 hd (.fz y hc hl hy hs hg hv) ho
 | fp y hc hy hs hg hv=>exact VR.down0 hd (.fp y hc hy hs hg hv) ho
theorem BC {n:Nat} {c:T V}:∀ {k i:Nat},Au n c k i=true→∀ j,j<k→∃ v,c.get (i+j)=some v∧uz n v=true:=by
 intro k
 induction k with
 | zero=>intro i h j hj;omega
 | succ k ih =>
  intro i h j hj
  have h:(match c.get i with | some v=>cond (uz n v) (Au n c k (i+1)) false | none=>false)=true:=h
  cases h1:c.get i with
  | none=>rw [h1] at h;cases h
  | some v =>
   rw [h1] at h
   simp only at h
   cases h2:uz n v with
   | false=>rw [h2] at h;cases h
   | true =>
    rw [h2] at h
    cases j with
    | zero=>exact ⟨v,by rw [Nat.add_zero];exact h1,h2⟩
    | succ j=>rw [show i+(j+1)=i+1+j by omega];exact ih h j (by omega)
theorem VR.down {n:Nat} {R R1:Ren} (hd:Dn n R R1) {v:V} {x:Value} (h:VR R1 v x) (ho:nH n v=true):VR R v x:=by
 cases h with
 | agg g hn hg hs hv =>
  rename_i k c cs
  have ho:Au n c k 0=true:=ho
  refine .agg g hn hg hs fun i hi=>(hv i hi).down1 hd ?_
  obtain ⟨v,e1,e2⟩:=BC ho i (by omega)
  rw [Nat.zero_add,hg i (by omega)] at e1
  cases e1;exact e2
 | bad v=>cases ho
 | bool b=>exact .bool b
 | int k n=>exact .int k n
 | str s=>exact .str s
 | nilPtr=>exact .nilPtr
 | ptr h e=>exact VR.down1 hd (.ptr h e) ho
 | nilSlice=>exact .nilSlice
 | slice h h1 h2 h3=>exact VR.down1 hd (.slice h h1 h2 h3) ho
 | nilMap=>exact .nilMap
 | map h=>exact VR.down1 hd (.map h) ho
 | nilFunc=>exact .nilFunc
 | func hl hv hm hv'=>exact VR.down1 hd (.func hl hv hm hv') ho
 | yld h=>exact VR.down1 hd (.yld h) ho
 | nilIface=>exact .nilIface
 | tup=>cases ho
 | fzN=>exact .fzN
 | fzE h0=>exact .fzE h0
 | fz y hc hl hy hs hg hv h0=>exact VR.down1 hd (.fz y hc hl hy hs hg hv) ho
 | fp y hc hy hs hg hv=>exact VR.down1 hd (.fp y hc hy hs hg hv) ho
theorem D7 {n:Nat}:∀ {l:List (V×V×Nat)},Ur n l=true→∀ e,e∈l→nH n e.1=true∧nH n e.2.1=true
 | [],_,e,he=>by cases he
 | x::es,ho,e,he=>by
  have ho:cond (nH n x.1) (cond (nH n x.2.1) (Ur n es) false) false=true:=ho
  cases a:nH n x.1 with
  | false=>rw [a] at ho;cases ho
  | true =>
   rw [a] at ho
   simp only [cond_true] at ho
   cases b:nH n x.2.1 with
   | false=>rw [b] at ho;cases ho
   | true =>
    rw [b] at ho
    rcases List.mem_cons.1 he with rfl | he
    ·exact ⟨a,b⟩
    ·exact D7 ho e he
theorem MR.down {n:Nat} {R R1:Ren} (hd:Dn n R R1) {l:List (V×V×Nat)} {l':List MapEntry} {clk:Nat} (h:MR R1 l l' clk) (ho:Ur n l=true):MR R l l' clk:=by
 obtain ⟨⟨z,h1,h2,h3⟩,h4,h5⟩:=h
 refine ⟨⟨z,h1,h2,fun p hp=>?_⟩,h4,h5⟩
 obtain ⟨a,b⟩:=D7 ho p.1 (by rw [← h1];exact List.mem_map.2 ⟨p,hp,rfl⟩)
 exact ⟨(h3 p hp).1.down hd a,(h3 p hp).2.down hd b⟩
theorem OR.down {n:Nat} {R R1:Ren} (hd:Dn n R R1) {s:Prop} {vd vd':Bool} {o:EO} {b r d:Nat} {w:World} (h:OR R1 s vd o r d w) (ho:DD n o=true) (hb:b<n) (hm:R.bm b=some (r,d)) (hv:vd'=true→vd=true):OR R s vd' o r d w:=by
 cases o with
 | cells c lo sz g =>
  obtain ⟨cs,t,fz,h1,h2,h3,h4⟩:=h
  refine ⟨cs,t,fz,h1,by rw [← hd.zs b r d hb hm];exact h2,h3,fun a v i hi hj=>?_⟩
  obtain ⟨q,x,y,e1,e2,e3,e4⟩:=h4 a (hv v) i hi hj
  refine ⟨q,x,y,e1,e2,e3,e4.down1 hd ?_⟩
  have ho:Au n c (sz-lo) lo=true:=ho
  obtain ⟨v',p1,p2⟩:=BC ho (i-lo) (by omega)
  rw [show lo+(i-lo)=i by omega,e1] at p1
  cases p1;exact p2
 | map es clk=>obtain ⟨e,es',clk',h1,h2⟩:=h;exact ⟨e,es',clk',h1,fun a=>let ⟨p,q⟩:=h2 a;⟨p,q.down hd ho⟩⟩
 | loop=>cases ho
 | dfr o=>exact h
 | iter o =>
  obtain ⟨e,x,y,z,u,h1,h2⟩:=h
  refine ⟨e,x,y,z,u,h1,fun a=>?_⟩
  have:=h2 a
  cases o with
  | none=>trivial
  | some p =>
   obtain ⟨m,c⟩:=p
   obtain ⟨q1,q2,q3,rm,q4,q5⟩:=this
   exact ⟨q1,q2,q3,rm,q4,by rw [← hd.bm m (dh ho)];exact q5⟩
theorem rf {a b:Bool} (h:iq a b=true):a=b:=by cases a<;>cases b<;>first | rfl | cases h
theorem mi {a b:IntKind} (h:gz a b=true):a=b:=by cases a<;>cases b<;>first | rfl | cases h
theorem Lu {a b:Int} (h:aK a b=true):a=b:=by
 cases a<;>cases b<;>first | (cases h;done) | (rw [Nat.eq_of_beq_eq_true h])
theorem ax {a b:Bool} (h:cond a b false=true):a=true∧b=true:=by cases a<;>first | exact ⟨rfl,h⟩ | cases h
theorem nb {a b:Nat} (h:Nat.beq a b=true):a=b:=Nat.eq_of_beq_eq_true h
theorem nJ:∀ {l m:List Nat},BX l m=true→l=m
 | [],[],_=>rfl
 | [],_::_,h=>by cases h
 | _::_,[],h=>by cases h
 | x::l,y::m,h=>by
  have h:cond (Nat.beq x y) (BX l m) false=true:=h
  obtain ⟨h1,h2⟩:=ax h
  rw [nb h1,nJ h2]
theorem Dq {α:Type} {e:α→α→Bool} (he:∀ x y,e x y=true→x=y):∀ {a b:T α},eqT e a b=true→a=b:=by
 intro a
 induction a with
 | lf=>intro b h;cases b with | lf=>rfl | nd=>cases h | fn=>cases h
 | nd v l r ihl ihr =>
  intro b h
  cases b with
  | lf=>cases h
  | fn=>cases h
  | nd w l' r' =>
   have h:cond (Am e v w) (cond (eqT e l l') (eqT e r r') false) false=true:=h
   obtain ⟨h1,h2⟩:=ax h
   obtain ⟨h2,h3⟩:=ax h2
   rw [ihl h2,ihr h3]
   cases v with
   | none=>cases w with | none=>rfl | some w=>cases h1
   | some v=>cases w with | none=>cases h1 | some w=>rw [he v w h1]
 | fn f=>intro b h;cases h
theorem yC {a b:V} (h:eq0 a b=true):a=b:=by
 unfold eq0 at h
 split at h
 ·rfl
 ·rw [rf h]
 ·obtain ⟨h1,h2⟩:=ax h;rw [mi h1,Lu h2]
 ·rfl
 ·rfl
 ·rfl
 ·rfl
 ·rfl
 ·obtain ⟨h1,h2⟩:=ax h;rw [nb h1,nb h2]
 ·obtain ⟨h1,h2⟩:=ax h;obtain ⟨h2,h3⟩:=ax h2;obtain ⟨h3,h4⟩:=ax h3;rw [nb h1,nb h2,nb h3,nb h4]
 ·rw [nb h]
 ·rw [nb h]
 ·cases h
theorem Dk:∀ {l m:List V},UA l m=true→l=m
 | [],[],_=>rfl
 | [],_::_,h=>by cases h
 | _::_,[],h=>by cases h
 | x::l,y::m,h=>by
  have h:cond (eq0 x y) (UA l m) false=true:=h
  obtain ⟨h1,h2⟩:=ax h
  rw [yC h1,Dk h2]
theorem PZ {a b:V} (h:eq1 a b=true):a=b:=by
 unfold eq1 at h
 split at h
 ·obtain ⟨h1,h2⟩:=ax h;obtain ⟨h2,h3⟩:=ax h2
  have:∀ {f f':FuncId},Nat.beq f f'=true→f=f':=nb
  rw [this h1,Dk h2,Dk h3]
 ·exact yC h
theorem jW {a b:V} (h:mO a b=true):a=b:=by
 unfold mO at h
 split at h
 ·obtain ⟨h1,h2⟩:=ax h;rw [nb h1,Dq (fun _ _=>PZ) h2]
 ·exact PZ h
theorem RI:∀ {l m:List (V×V×Nat)},eqE l m=true→l=m
 | [],[],_=>rfl
 | [],_::_,h=>by cases h
 | _::_,[],h=>by cases h
 | x::l,y::m,h=>by
  have h:cond (mO x.1 y.1) (cond (mO x.2.1 y.2.1) (cond (Nat.beq x.2.2 y.2.2) (eqE l m) false) false) false=true:=h
  obtain ⟨h1,h2⟩:=ax h;obtain ⟨h2,h3⟩:=ax h2;obtain ⟨h3,h4⟩:=ax h3
  rw [RI h4]
  obtain ⟨x1,x2,x3⟩:=x
  obtain ⟨y1,y2,y3⟩:=y
  have a1:x1=y1:=jW h1
  have a2:x2=y2:=jW h2
  have a3:x3=y3:=nb h3
  rw [a1,a2,a3]
theorem WJ {a b:EO} (h:eqO a b=true):a=b:=by
 unfold eqO at h
 split at h
 ·obtain ⟨h1,h2⟩:=ax h;obtain ⟨h2,h3⟩:=ax h2;obtain ⟨h3,h4⟩:=ax h3
  rw [nb h1,nb h2,nb h3,Dq (fun _ _=>jW) h4]
 ·obtain ⟨h1,h2⟩:=ax h;rw [nb h1,RI h2]
 ·rw [rf h]
 ·rfl
 ·obtain ⟨h1,h2⟩:=ax h;rw [nb h1,nb h2]
 ·cases h
theorem TU {a b:Option EO} (h:Vx a b=true):a=b:=by
 cases a<;>cases b<;>first | rfl | (cases h;done) | (rw [WJ h])
theorem Dy:∀ {l m:List (Option EO)},Il l m=true→l=m
 | [],[],_=>rfl
 | [],_::_,h=>by cases h
 | _::_,[],h=>by cases h
 | x::l,y::m,h=>by
  have h:cond (Vx x y) (Il l m) false=true:=h
  obtain ⟨h1,h2⟩:=ax h
  rw [TU h1,Dy h2]
theorem Kv {a b:St} (h:Me a b=true):a=b:=by
 obtain ⟨a1,a2⟩:=a
 obtain ⟨b1,b2⟩:=b
 have h:cond (eqT mO a1 b1) (Il a2 b2) false=true:=h
 obtain ⟨h1,h2⟩:=ax h
 rw [Dq (fun _ _=>jW) h1,Dy h2]
theorem Ws {a b:Option qo} (h:eqG a b=true):a=b:=by
 unfold eqG at h
 split at h
 ·rfl
 ·obtain ⟨h1,h2⟩:=ax h;obtain ⟨h2,h3⟩:=ax h2
  rw [nb h1,nb h2,Dq (fun _ _=>nb) h3]
 ·cases h
theorem Qq {g h:T qo}:∀ {k b:Nat},S9 g h k b=true→∀ j,j<k→g.get (b+j)=h.get (b+j):=by
 intro k
 induction k with
 | zero=>intro b _ j hj;omega
 | succ k ih =>
  intro b e j hj
  have e:cond (eqG (g.get b) (h.get b)) (S9 g h k (b+1)) false=true:=e
  obtain ⟨e1,e2⟩:=ax e
  cases j with
  | zero=>exact Ws e1
  | succ j=>rw [show b+(j+1)=b+1+j by omega];exact ih e2 j (by omega)
theorem iP {α:Type} (l:List α):eY l=l.length:=by
 induction l with
 | nil=>rfl
 | cons x l ih=>show Nat.succ (eY l)=_;rw [ih];rfl
theorem fB {α:Type}:∀ (l:List α) (i:Nat),lM l i=l[i]?
 | [],_=>rfl
 | _::_,0=>rfl
 | _::l,i+1=>by show lM l i=_;rw [fB l i];rfl
theorem PM {α:Type} (l:List α) (x:α):Kt l x=l++[x]:=by
 induction l with
 | nil=>rfl
 | cons y l ih=>show y::Kt l x=_;rw [ih];rfl
theorem Gf {s:St}:∀ {l:List St} {i j:Nat},yI s l i=some j→i≤j∧l[j-i]?=some s:=by
 intro l
 induction l with
 | nil=>intro i j h;cases h
 | cons x l ih =>
  intro i j h
  have h:cond (Me s x) (some i) (yI s l (i+1))=some j:=h
  cases hx:Me s x with
  | true=>rw [hx] at h;cases h;rw [Kv hx];simp
  | false =>
   rw [hx] at h
   obtain ⟨h1,h2⟩:=ih h
   exact ⟨by omega,by rw [show j-i=(j-(i+1))+1 by omega];exact h2⟩
def RowOk (step:V→V→Option St) (es:List (V×V×Nat)) (st:List St) (row:List Nat):Prop :=
 row.length=es.length∧∀ (j:Nat) (e:V×V×Nat),es[j]?=some e→∃ s' x,step e.1 e.2.1=some s'∧row[j]?=some x∧st[x]?=some s'
theorem uo {α:Type} {l m:List α} (h:l <+: m) {i:Nat} {x:α} (hx:l[i]?=some x):m[i]?=some x:=by
 obtain ⟨t,rfl⟩:=h
 rw [List.getElem?_append_left (List.getElem?_eq_some_iff.1 hx).1];exact hx
theorem RowOk.mono {step:V→V→Option St} {es:List (V×V×Nat)} {st st':List St} {row:List Nat} (h:RowOk step es st row) (hp:st <+: st'):RowOk step es st' row :=
 ⟨h.1,fun j e he=>let ⟨s',x,h1,h2,h3⟩:=h.2 j e he;⟨s',x,h1,h2,uo hp h3⟩⟩
theorem Iq {step:V→V→Option St}:∀ {es:List (V×V×Nat)} {st st':List St} {row:List Nat},vH step es st=some (st',row)→st <+: st'∧RowOk step es st' row:=by
 intro es
 induction es with
 | nil=>intro st st' row h;cases h;exact ⟨List.prefix_refl _,rfl,fun j e he=>by simp at he⟩
 | cons e es ih =>
  intro st st' row h
  have h:(match step e.1 e.2.1 with
   | none=>none
   | some s'=>match yI s' st 0 with
    | some j=>F7 j (vH step es st)
    | none=>F7 (eY st) (vH step es (Kt st s')))=some (st',row):=h
  cases h1:step e.1 e.2.1 with
  | none=>rw [h1] at h;cases h
  | some s' =>
   rw [h1] at h
   simp only at h
   have fin:∀ x (st1:List St),st <+: st1→st1[x]?=some s'→F7 x (vH step es st1)=some (st',row)→st <+: st'∧RowOk step (e::es) st' row:=by
    intro x st1 hp hx hc
    cases h2:vH step es st1 with
    | none=>rw [h2] at hc;cases hc
    | some p =>
     obtain ⟨st2,row2⟩:=p
     rw [h2] at hc
     cases hc
     obtain ⟨p1,p2,p3⟩:=ih h2
     refine ⟨hp.trans p1,by simp [p2],fun j e' he=>?_⟩
     cases j with
     | zero=>simp at he;subst he;exact ⟨s',x,h1,rfl,uo p1 hx⟩
     | succ j=>exact p3 j e' (by simpa using he)
   cases h3:yI s' st 0 with
   | some j =>
    rw [h3] at h
    exact fin j st (List.prefix_refl _) (by have:=(Gf h3).2;simpa using this) h
   | none =>
    rw [h3] at h
    simp only [iP,PM] at h
    exact fin _ _ (List.prefix_append _ _) (by simp) h
theorem QR {step:St→V→V→Option St} {es:List (V×V×Nat)}:∀ {fuel i:Nat} {st st':List St} {tab:List (List Nat)},bfs step es fuel i st=some (st',tab)→i≤st.length →
 st <+: st'∧i+tab.length=st'.length∧∀ p row,tab[p]?=some row→∃ s,st'[i+p]?=some s∧RowOk (step s) es st' row:=by
 intro fuel
 induction fuel with
 | zero=>intro i st st' tab h;cases h
 | succ fuel ih =>
  intro i st st' tab h hi
  have h:(match lM st i with
   | none=>some (st,[])
   | some s=>match vH (step s) es st with
    | none=>none
    | some (st',row)=>Vu row (bfs step es fuel (i+1) st'))=some (st',tab):=h
  rw [fB] at h
  cases h1:st[i]? with
  | none =>
   rw [h1] at h
   cases h
   have:st.length≤i:=by simpa using h1
   exact ⟨List.prefix_refl _,by simp;omega,fun p row h=>by simp at h⟩
  | some s =>
   rw [h1] at h
   simp only at h
   cases h2:vH (step s) es st with
   | none=>rw [h2] at h;cases h
   | some q =>
    obtain ⟨st1,row⟩:=q
    rw [h2] at h
    simp only at h
    obtain ⟨p1,p2⟩:=Iq h2
    cases h3:bfs step es fuel (i+1) st1 with
    | none=>rw [h3] at h;cases h
    | some q =>
     obtain ⟨st2,tab2⟩:=q
     rw [h3] at h
     cases h
     have hi':i<st.length:=(List.getElem?_eq_some_iff.1 h1).1
     obtain ⟨k1,k2,k3⟩:=ih h3 (by have:=p1.length_le;omega)
     refine ⟨p1.trans k1,by simp;omega,fun p row' hp=>?_⟩
     cases p with
     | zero=>simp at hp;subst hp;exact ⟨s,uo k1 (uo p1 h1),p2.mono k1⟩
     | succ p =>
      obtain ⟨s2,e1,e2⟩:=k3 p row' (by simpa using hp)
      exact ⟨s2,by rw [show i+(p+1)=i+1+p by omega];exact e1,e2⟩
theorem aQ {p:Nat→Bool}:∀ {n:Nat},dP p n=true→∀ i,i<n→p i=true:=by
 intro n
 induction n with
 | zero=>intro _ i hi;omega
 | succ n ih =>
  intro h i hi
  have h:cond (p n) (dP p n) false=true:=h
  obtain ⟨h1,h2⟩:=ax h
  by_cases e:i=n
  ·subst e;exact h1
  ·exact ih h2 i (by omega)
theorem IK {tab:List (List Nat)} {n k:Nat} (h:zk tab n k=true) {i j l:Nat} (hi:i<n) (hj:j<k) (hl:l<k):jR tab (jR tab i j) l=jR tab (jR tab i l) j:=by
 rcases Nat.lt_trichotomy l j with q | q | q
 ·exact nb (aQ (aQ (aQ h i hi) j hj) l q)
 ·rw [q]
 ·exact (nb (aQ (aQ (aQ h i hi) l hl) j q)).symm
theorem TF (tab:List (List Nat)) {i j x:Nat} {row:List Nat} (h1:tab[i]?=some row) (h2:row[j]?=some x):jR tab i j=x:=by
 unfold jR;rw [fB,h1];simp only [fB];rw [h2]
theorem Ir {tab:List (List Nat)} {n k:Nat} (hc:zk tab n k=true) (hcl:∀ i j,i<n→j<k→jR tab i j<n):∀ (rem:List Nat) (i j:Nat),i<n→(∀ x∈rem,x<k)→j∈rem →
 (rem.erase j).foldl (jR tab) (jR tab i j)=rem.foldl (jR tab) i:=by
 intro rem
 induction rem with
 | nil=>intro i j _ _ h;cases h
 | cons x rem ih =>
  intro i j hi hk hj
  by_cases e:x=j
  ·subst e;rw [List.erase_cons_head];rfl
  ·rw [List.erase_cons_tail (by simpa using e),List.foldl_cons,List.foldl_cons]
   have hj':j∈rem:=by cases hj with | head=>exact absurd rfl e | tail _ h=>exact h
   have hx:x<k:=hk x (by simp)
   have hjk:j<k:=hk j (by simp [hj'])
   rw [IK hc hi hjk hx]
   exact ih (jR tab i x) j (hcl i x hi hx) (fun y hy=>hk y (by simp [hy])) hj'
theorem OC (tab:List (List Nat)) (k:Nat):endOf tab k=(List.range k).foldl (jR tab) 0:=by
 have:∀ (k i j:Nat),(Nat.rec (motive:=fun _=>Nat→Nat→Nat) (fun i _=>i) (fun _ ih i j=>ih (jR tab i j) (Nat.succ j)) k:Nat→Nat→Nat) i j=(List.range' j k).foldl (jR tab) i:=by
  intro k
  induction k with
  | zero=>intro i j;rfl
  | succ k ih=>intro i j;rw [List.range'_succ,List.foldl_cons];exact ih _ _
 rw [List.range_eq_range']
 exact this k 0 0
end Go.Ev
/- Loops over a map: what the machine does at the loop's head, and what is kept of a round. -/
namespace Go.Ev
open Go
variable {P:Program}
theorem yV {x:Operand} {t:Nat} (h:y7 x t=true):x = .tmp t:=by
 cases x<;>first | (cases h;done) | (rw [nb h])
theorem kH {g:Option (Nat×Bool)} (h:jT g=true):g=none:=by cases g<;>first | rfl | cases h
theorem Gl {o:Oper} {it t:Tmp} (h:Hl o=some (it,t)):o.op = .next (.tmp it) false∧o.dst=some t∧o.guard=none:=by
 unfold Hl at h
 split at h
 ·rename_i it' e
  cases hg:jT o.guard with
  | false=>rw [hg] at h;cases h
  | true =>
   rw [hg] at h
   have h:(match o.dst with | some t=>some (it',t) | none=>none)=some (it,t):=h
   split at h
   ·rename_i d hd
    cases h
    exact ⟨e,hd,kH hg⟩
   ·cases h
 ·cases h
theorem Ha {o:Oper} {t1 t:Tmp} (h:Jq o t1=some t):o.op = .extract (.tmp t1) 0∧o.dst=some t∧o.guard=none:=by
 unfold Jq at h
 split at h
 ·rename_i x e
  cases hx:y7 x t1 with
  | false=>rw [hx] at h;cases h
  | true =>
   rw [hx] at h
   cases hg:jT o.guard with
   | false=>rw [hg] at h;cases h
   | true=>rw [hg] at h;exact ⟨by rw [e,yV hx],h,kH hg⟩
 ·cases h
theorem Dh {o:Oper} {it t:Tmp} (h:entryOf o it=some t):o.op = .entry (.tmp it)∧o.dst=some t∧o.guard=none:=by
 unfold entryOf at h
 split at h
 ·rename_i x e
  cases hx:y7 x it with
  | false=>rw [hx] at h;cases h
  | true =>
   rw [hx] at h
   cases hg:jT o.guard with
   | false=>rw [hg] at h;cases h
   | true=>rw [hg] at h;exact ⟨by rw [e,yV hx],h,kH hg⟩
 ·cases h
structure MLOk (ml:ML) (body:Code) (i1 i2:Nat) (o1 o3:Oper):Prop where
 body:body = .seq (.region i1 ml.ops1 false) (.seq (.cond (.tmp ml.t2) .skip (.exit ml.id)) (.block ml.cid (.seq (.region i2 ml.ops false) ml.rest)))
 l1:ml.ops1.toList=[o1,ml.o2]
 o1:o1.op = .next (.tmp ml.it) false∧o1.dst=some ml.t1∧o1.guard=none
 o2:ml.o2.op = .extract (.tmp ml.t1) 0∧ml.o2.dst=some ml.t2∧ml.o2.guard=none
 l2:ml.ops.toList=o3::ml.tl
 o3:o3.op = .entry (.tmp ml.it)∧o3.dst=some ml.t3∧o3.guard=none
theorem DF {body:Code} {ml:ML} (h:kW body=some ml):∃ i1 i2 o1 o3,MLOk ml body i1 i2 o1 o3:=by
 unfold kW at h
 split at h
 ·rename_i i1 ops1 c
  unfold EF at h
  split at h
  ·rename_i o1 o2 hl1
   split at h
   ·rename_i it t1 h1
    split at h
    ·rename_i t2 h2
     unfold ET at h
     split at h
     ·rename_i x id cid c'
      cases hx:y7 x t2 with
      | false=>rw [hx] at h;cases h
      | true =>
       rw [hx] at h
       have h:(match QK c' with | .mk ops rest=>zg it t1 t2 ops1 o2 id cid ops rest | .no=>none)=some ml:=h
       split at h
       ·rename_i ops rest hh
        unfold zg at h
        split at h
        ·rename_i o3 tl hl2
         split at h
         ·rename_i t3 h3
          cases h
          unfold QK at hh
          split at hh
          ·rename_i i2 ops' rest'
           cases hh
           exact ⟨i1,i2,o1,o3,⟨by rw [yV hx],hl1,Gl h1,Ha h2,hl2,Dh h3⟩⟩
          ·cases hh
         ·cases h
        ·cases h
       ·cases h
     ·cases h
    ·cases h
   ·cases h
  ·cases h
 ·cases h
theorem Wp {w w1:World} {r:Nat} {ob ob':Obj} (h:w.heap[r]?=some ob) (e:w1.heap=w.heap) (e1:w1.os=w.os) (e2:w1.tape=w.tape) (e3:w1.output=w.output):WU w r ob' { w1 with heap:=w1.heap.setIfInBounds r ob' }:=by
 have hr:r<w.heap.size:=by
  rcases Nat.lt_or_ge r w.heap.size with h' | h'
  ·exact h'
  ·simp [Array.getElem?_eq_none h'] at h
 refine ⟨by simp [e],by simp [e,hr],fun r' hr'=>?_,e1,e2,e3⟩
 show (w1.heap.setIfInBounds r ob')[r']?=_
 rw [e,Array.getElem?_setIfInBounds_ne (Ne.symm hr')]
theorem run_next_any {w:World} {r rm clk:Nat} {seen:Array Nat} {es:Array MapEntry} (hi:w.heap[r]?=some (.mapIter (some rm) clk seen clk)) (hm:w.heap[rm]?=some (.map es clk)) (hold:∀ x∈es.toList,x.born<clk) (ty:TypeId) :
 ((leftOf es seen).size=0∧(Instr.next (.pointer (some ⟨r,0,none⟩)) false ty).run P w = .ok (.tuple #[.bool false]) w) ∨
 ∃ e∈(leftOf es seen).toList,∃ w1:World,WU w r (.mapIter (some rm) clk (seen.push e.born) clk) w1∧(Instr.next (.pointer (some ⟨r,0,none⟩)) false ty).run P w = .ok (.tuple #[.bool true,e.key,e.val]) w1:=by
 simp only [Instr.next,getObj,Sem.run_bind,Sem.run,hi,hm,Result.andThen,next_test_false seen es clk clk hold (Nat.le_refl _),Bool.false_eq_true,if_false]
 unfold leftOf
 have hmem:∀ x∈(Array.filter (fun e => !seen.contains e.born) es).toList,x.born<clk:=fun x hx=>hold x (by simp at hx ⊢;exact hx.1)
 generalize Array.filter (fun e => !seen.contains e.born) es=L at hmem ⊢
 have e1:L.filter (fun x=>decide (x.born<clk))=L:=Array.filter_eq_self.2 (fun x hx=>by simpa using hmem x (by simpa using hx))
 have e2:L.filter (fun x=>decide (x.born≥clk))=#[]:=by
  rw [Array.filter_eq_empty_iff]
  intro x hx
  have:=hmem x (by simpa using hx)
  simp
  omega
 simp only [e1,e2,Array.append_empty]
 by_cases h0:L.size=0
 ·left
  have:L=#[]:=Array.eq_empty_of_size_eq_zero h0
  subst this
  refine ⟨rfl,?_⟩
  simp [choose,Sem.run,Question.forced]
 ·right
  have hne:L.isEmpty=false:=by simp [Array.isEmpty,h0]
  simp only [hne,Bool.false_eq_true,if_false,Array.empty_append,Array.size_map]
  have hch:∃ (j:Nat) (w1:World),j<L.size∧(w1.heap=w.heap∧w1.os=w.os∧w1.tape=w.tape∧w1.output=w.output)∧(choose (Question.mapNext L.size)).run P w = .ok j w1:=by
   by_cases hf:L.size≤1
   ·exact ⟨0,w,by omega,⟨rfl,rfl,rfl,rfl⟩,by simp [choose,Sem.run,Question.forced,hf]⟩
   ·exact ⟨_,w.drew,Nat.mod_lt _ (by omega),⟨rfl,rfl,rfl,rfl⟩,by
     simp only [choose,Sem.run,Question.forced,decide_eq_true_eq,hf,if_false,Question.cut]
     rfl⟩
  obtain ⟨j,w1,hj,⟨a1,a2,a3,a4⟩,hrun⟩:=hch
  refine ⟨L[j],by simp,_,Wp hi a1 a2 a3 a4,?_⟩
  have hi1:w1.heap[r]?=some (.mapIter (some rm) clk seen clk):=by rw [a1];exact hi
  simp only [hrun,Array.getElem?_map,Array.getElem?_eq_getElem hj,Option.map_some,Sem.run_bind,setObj,Sem.run,hi1,Result.andThen]
  rfl
theorem zH {w:World} {r rm clk since:Nat} {seen:Array Nat} {es:Array MapEntry} {e:MapEntry} (hi:w.heap[r]?=some (.mapIter (some rm) since (seen.push e.born) clk)) (hm:w.heap[rm]?=some (.map es clk)) (he:e∈es.toList) (hn:(es.toList.map (·.born)).Nodup) :
 (Instr.entry (.pointer (some ⟨r,0,none⟩))).run P w = .ok (.tuple #[e.key,e.val]) w:=by
 have hf:es.find? (·.born==e.born)=some e:=by rw [← Array.find?_toList];exact find_born e es.toList hn he
 simp only [Instr.entry,getObj,Sem.run_bind,Sem.run,hi,hm,Result.andThen,Array.back?_push,bne_self_eq_false,Bool.false_eq_true,if_false,hf]
 rfl
theorem DR.down {n:Nat} {R R1:Ren} (hd:Dn n R R1):∀ {l:List Nat} {ds:List Deferred},(∀ b,b∈l→b<n)→DR R1 l ds→DR R l ds
 | [],[],_,_=>trivial
 | b::bs,_::_,hl,⟨⟨r,h,e⟩,k⟩=>⟨⟨r,by rw [← hd.bm b (hl b (by simp))];exact h,e⟩,DR.down hd (fun x hx=>hl x (by simp [hx])) k⟩
structure HK (c:MC) (s:St):Prop where
 dom:∀ b,(c.heap s).objs.get b=none↔c.objs.get b=none
 root:∀ b o0 o,c.objs.get b=some o0→(c.heap s).objs.get b=some o→aG b o=aG b o0∧bn o=bn o0
 keep:∀ b o0,c.objs.get b=some o0→aG b o0<c.lo→(c.heap s).objs.get b=some o0
structure MCOk (c:MC):Prop where
 wf:WF ⟨c.objs,c.next,c.grps,big⟩
theorem HK.some {c:MC} {s:St} (h:HK c s) {b:Nat} {o:EO} (ho:(c.heap s).objs.get b=some o):∃ o0,c.objs.get b=some o0∧aG b o=aG b o0∧bn o=bn o0:=by
 cases h0:c.objs.get b with
 | none=>rw [(h.dom b).2 h0] at ho;cases ho
 | some o0=>exact ⟨o0,rfl,h.root b o0 o h0 ho⟩
theorem HK.wf {c:MC} (hc:MCOk c) {s:St} (h:HK c s):WF (c.heap s):=by
 refine ⟨fun b o ho=>?_,fun b o ho=>?_,fun g hg b b' o o' h1 h2 e1 e2=>?_,hc.wf.gdom⟩
 ·obtain ⟨o0,a1,_⟩:=h.some ho;exact hc.wf.lt b o0 a1
 ·obtain ⟨o0,a1,a2,_⟩:=h.some ho;rw [a2];exact hc.wf.root b o0 a1
 ·obtain ⟨p,a1,a2,_⟩:=h.some h1
  obtain ⟨q,b1,b2,_⟩:=h.some h2
  exact hc.wf.uniq g hg b b' p q a1 b1 (a2.symm.trans e1) (b2.symm.trans e2)
theorem eQ {c:MC} {a:EA} {H:EH} {s:St} (h:lD c a H=some s) :
 a.n=c.n∧a.df=c.df∧c.lo≤H.low∧(∀ g,c.lo≤g→g<c.next→H.grps.get g=c.grps.get g) ∧
 H.next≤c.nx∧xH (getD' s.tm c.it) c.itn=true∧s.tm=oZ c.next c.base a.tm c.n∧s.dl.length=c.next-c.lo∧∀ j,j<c.next-c.lo→s.dl[j]?=some ((H.objs.get (c.lo+j)).map iQ)∧∀ o,H.objs.get (c.lo+j)=some o→DD c.next o=true:=by
 unfold lD at h
 cases h1:Nat.beq a.n c.n with
 | false=>rw [h1] at h;cases h
 | true =>
 rw [h1] at h
 simp only [cond_true] at h
 cases h2:BX a.df c.df with
 | false=>rw [h2] at h;cases h
 | true =>
 rw [h2] at h
 simp only [cond_true] at h
 cases h3:Nat.ble c.lo H.low with
 | false=>rw [h3] at h;cases h
 | true =>
 rw [h3] at h
 simp only [cond_true] at h
 cases h4:S9 c.grps H.grps (Nat.sub c.next c.lo) c.lo with
 | false=>rw [h4] at h;cases h
 | true =>
 rw [h4] at h
 simp only [cond_true] at h
 cases h8:Nat.ble H.next c.nx with
 | false=>rw [h8] at h;cases h
 | true =>
 rw [h8] at h
 simp only [cond_true] at h
 cases h6:yY c.next H.objs (Nat.sub c.next c.lo) c.lo with
 | none=>rw [h6] at h;cases h
 | some dl =>
  rw [h6] at h
  have h:cond (xH (getD' (oZ c.next c.base a.tm c.n) c.it) c.itn) (some (⟨oZ c.next c.base a.tm c.n,dl⟩:St)) none=some s:=h
  cases h7:xH (getD' (oZ c.next c.base a.tm c.n) c.it) c.itn with
  | false=>rw [h7] at h;cases h
  | true =>
  rw [h7] at h
  cases h
  obtain ⟨k1,k2⟩:=IC h6
  refine ⟨nb h1,nJ h2,Nat.le_of_ble_eq_true h3,fun g g1 g2=>?_,Nat.le_of_ble_eq_true h8,h7,rfl,k1,k2⟩
  have:=Qq h4 (g-c.lo) (by show g-c.lo<c.next-c.lo;omega)
  rw [show c.lo+(g-c.lo)=g by omega] at this
  exact this.symm
theorem uj {c:MC} {a:EA} {H:EH} {s:St} (h:lD c a H=some s) {b:Nat} (hb:c.lo≤b) (hb':b<c.next) (hd:H.objs.get b=none→c.objs.get b=none):(c.heap s).objs.get b=(H.objs.get b).map iQ:=by
 obtain ⟨_,_,_,_,_,_,_,k1,k2⟩:=eQ h
 show (Dw s.dl c.lo c.objs).get b=_
 rw [Fe,if_pos (by omega),(k2 (b-c.lo) (by omega)).1,show c.lo+(b-c.lo)=b by omega]
 cases hx:H.objs.get b with
 | none=>exact hd hx
 | some o=>rfl
theorem ny {c:MC} {a:EA} {H:EH} {s:St} (h:lD c a H=some s) {b:Nat} (hb:¬ (c.lo≤b∧b<c.next)):(c.heap s).objs.get b=c.objs.get b:=by
 obtain ⟨_,_,_,_,_,_,_,k1,k2⟩:=eQ h
 show (Dw s.dl c.lo c.objs).get b=_
 rw [Fe,if_neg (by omega)]
theorem trunc {c:MC} (hc:MCOk c) {s s':St} (hk:HK c s) {R R1:Ren} {w w1:World} {a1:EA} {H1:EH} {A1:Act} (hr:Rel R All (c.heap s) w) (hdf:∀ b,b∈c.df→b<c.next) (hsim:SimA R R1 (c.heap s) H1 w w1) (ha:AR R1 a1 A1) (h:lD c a1 H1=some s') :
 HK c s'∧Rel R All (c.heap s') w1∧AR R (c.act s') A1:=by
 obtain ⟨m1,m2,m3,m4,_,_,m5,m6,m7⟩:=eQ h
 have hwf:=hk.wf hc
 have himg:=hr.img
 have hd:Dn c.next R R1:=⟨fun b hb=>hsim.rx.same b (by show ¬ (c.next≤b∧_);omega),fun b r d hb e=>hsim.rx.zs r (himg b r d e),fun a ha=>hsim.rx.cz a (by show ¬ (c.next≤a∧_);omega)⟩
 -- each elder object, behind the round
 have hdom:∀ b,b<c.next→(H1.objs.get b=none↔c.objs.get b=none):=fun b hb=>by
  constructor
  ·intro e
   refine (hk.dom b).1 ?_
   cases h0:(c.heap s).objs.get b with
   | none=>rfl
   | some o=>obtain ⟨o',p,_⟩:=hsim.es.old b o h0;rw [e] at p;cases p
  ·intro e
   cases h0:H1.objs.get b with
   | none=>rfl
   | some o=>obtain ⟨o',p⟩:=hsim.es.back b o h0 hb;rw [(hk.dom b).2 e] at p;cases p
 have hlow:∀ b,b<c.lo→b<c.next→(c.heap s').objs.get b=H1.objs.get b:=fun b hl hb=>by
  rw [ny h (by omega)]
  cases h0:c.objs.get b with
  | none=>exact ((hdom b hb).2 h0).symm
  | some o0 =>
   have hr:aG b o0<c.lo:=by have:=hc.wf.root b o0 h0;omega
   have e:=hk.keep b o0 h0 hr
   exact ((hsim.es.keep b o0 e (fun q=>by have q:H1.low≤aG b o0:=q;omega)).1).symm
 have hgn:∀ b,b<c.next→((c.heap s').objs.get b=none↔H1.objs.get b=none):=fun b hb=>by
  by_cases hl:c.lo≤b
  ·rw [uj h hl hb (hdom b hb).1];simp
  ·rw [hlow b (by omega) hb]
 have hget:∀ b o,b<c.next→(c.heap s').objs.get b=some o→∃ o1,H1.objs.get b=some o1∧(o=o1∨o=iQ o1):=fun b o hb e=>by
  by_cases hl:c.lo≤b
  ·rw [uj h hl hb (hdom b hb).1] at e
   obtain ⟨o1,e1,e2⟩:=Option.map_eq_some_iff.1 e
   exact ⟨o1,e1,.inr e2.symm⟩
  ·rw [hlow b (by omega) hb] at e
   exact ⟨o,e,.inl rfl⟩
 have hrt:∀ {b:Nat} {o o1:EO},(o=o1∨o=iQ o1)→aG b o=aG b o1∧bn o=bn o1:=fun q=>by
  rcases q with rfl | rfl
  ·exact ⟨rfl,rfl⟩
  ·exact ⟨y8 _ _,xh _⟩
 have hnone:∀ b,c.next≤b→(c.heap s').objs.get b=none:=fun b hb=>by
  rw [ny h (by omega)]
  cases h0:c.objs.get b with
  | none=>rfl
  | some o=>have:=hc.wf.lt b o h0;exact absurd this (by show ¬ b<c.next;omega)
 have hlt:∀ b o,(c.heap s').objs.get b=some o→b<c.next:=fun b o e=>by
  rcases Nat.lt_or_ge b c.next with q | q
  ·exact q
  ·rw [hnone b q] at e;cases e
 have hk':HK c s':=by
  refine ⟨fun b=>?_,fun b o0 o e0 e=>?_,fun b o0 e0 hr=>?_⟩
  ·rcases Nat.lt_or_ge b c.next with q | q
   ·rw [hgn b q];exact hdom b q
   ·rw [hnone b q]
    cases h0:c.objs.get b with
    | none=>simp
    | some o=>have:=hc.wf.lt b o h0;exact absurd this (by show ¬ b<c.next;omega)
  ·have hb:=hlt b o e
   obtain ⟨oo,e,qq⟩:=hget b o hb e
   obtain ⟨o1,p⟩:=hsim.es.back b oo e hb
   obtain ⟨o2,q1,q2,q3⟩:=hsim.es.old b o1 p
   rw [e] at q1;cases q1
   obtain ⟨r1,r2⟩:=hk.root b o0 o1 e0 p
   exact ⟨(hrt qq).1.trans (q2.trans r1),(hrt (b:=b) qq).2.trans (q3.trans r2)⟩
  ·have hb:b<c.next:=hc.wf.lt b o0 e0
   have e:=hk.keep b o0 e0 hr
   have e1:=(hsim.es.keep b o0 e (fun q=>by have q:H1.low≤aG b o0:=q;omega)).1
   by_cases hl:c.lo≤b
   ·rw [uj h hl hb (hdom b hb).1,e1]
    show some (iQ o0)=some o0
    rw [yX (b:=b) (by omega)]
   ·rw [hlow b (by omega) hb,e1]
 refine ⟨hk',⟨fun b r d e=>Nat.lt_of_lt_of_le (himg b r d e) hsim.fr.size,fun b o r d e hm=>?_,fun b b' o o' r d d' e e' hm hm'=>?_,
  hr.frz.step rfl (fun r hr' hn=>hsim.fr.keep r hr' fun b o d _ e _=>hn b d e) fun b r d e => .inr ⟨b,d,e⟩⟩,⟨⟨?_,fun i hi=>?_,fun i=>?_⟩,?_⟩⟩
 ·have hb:=hlt b o e
  obtain ⟨oo,e,qq⟩:=hget b o hb e
  suffices hOR:∀ o,H1.objs.get b=some o→OR R True ((c.heap s').vd b o) o r d w1 by
   have hOR:=hOR oo e
   rcases qq with rfl | rfl
   ·exact hOR
   ·have hv:(c.heap s').vd b (iQ oo)=(c.heap s').vd b oo:=by cases oo<;>rfl
    rw [hv]
    exact hOR.norm
  clear qq e oo
  intro o e
  have hor:=hsim.rel.obj b o r d e (by rw [hd.bm b hb];exact hm)
  have hold:DD c.next o=true∨(c.heap s).objs.get b=some o:=by
   by_cases hl:c.lo≤b
   ·have:=(m7 (b-c.lo) (by omega)).2
    rw [show c.lo+(b-c.lo)=b by omega] at this
    exact .inl (this o e)
   ·obtain ⟨o1,p⟩:=hsim.es.back b o e hb
    obtain ⟨o0,p0,p1,_⟩:=hk.some p
    have hr:aG b o0<c.lo:=by have:=hc.wf.root b o0 p0;omega
    have:=hk.keep b o0 p0 hr
    have q:=(hsim.es.keep b o0 this (fun q=>by have q:H1.low≤aG b o0:=q;omega)).1
    rw [e] at q;cases q
    exact .inr this
  have hvd:(c.heap s').vd b o=true→H1.vd b o=true:=by
   cases o with
   | cells cc lo sz g =>
    intro v
    have v:EH.valid (c.heap s') b sz g=true:=v
    show EH.valid H1 b sz g=true
    have hg:H1.grps.get g=c.grps.get g:=by
     obtain ⟨o1,p⟩:=hsim.es.back b _ e hb
     obtain ⟨o2,q1,q2,_⟩:=hsim.es.old b o1 p
     rw [e] at q1;cases q1
     have q2:g=aG b o1:=q2
     have hgb:g≤b:=by rw [q2];exact hwf.root b o1 p
     by_cases hl:c.lo≤g
     ·exact m4 g hl (by omega)
     ·have:=(hsim.es.keep b o1 p (fun q=>by have q:H1.low≤aG b o1:=q;omega)).2
      rw [← q2] at this
      exact this
    unfold EH.valid at v ⊢
    rw [hg]
    exact v
   | _=>exact id
  rcases hold with ho | ho
  ·exact (hor.down hd ho hb hm hvd)
  ·have hroot:aG b o<c.lo∨c.lo≤b:=by
    by_cases hl:c.lo≤b
    ·exact .inr hl
    ·obtain ⟨o0,p0,p1,_⟩:=hk.some ho
     have:=hc.wf.root b o0 p0
     exact .inl (by omega)
   rcases hroot with hroot | hl
   ·refine (hr.obj b o r d ho hm).mono (.refl R) hm (hsim.fr.keep r (himg b r d hm) fun b' o' d' ho' hm' q=>?_) (fun h=>h) (fun v=>by cases o<;>exact v)
    have q:H1.low≤aG b' o':=q
    rcases hr.inj b b' o o' r d d' ho ho' hm hm' with e1 | ⟨_,_,_,e1⟩
    ·subst e1;rw [ho] at ho';cases ho';omega
    ·omega
   ·have:=(m7 (b-c.lo) (by omega)).2
    rw [show c.lo+(b-c.lo)=b by omega] at this
    exact (hor.down hd (this o e) hb hm hvd)
 ·have hb:=hlt b o e
  have hb':=hlt b' o' e'
  obtain ⟨p,e,q⟩:=hget b o hb e
  obtain ⟨p',e',q'⟩:=hget b' o' hb' e'
  have a1:=hrt (b:=b) q
  have a2:=hrt (b:=b') q'
  rw [a1.2,a2.2,a1.1,a2.1]
  exact hsim.rel.inj b b' p p' r d d' e e' (by rw [hd.bm b hb];exact hm) (by rw [hd.bm b' hb'];exact hm')
 ·show A1.tmps.size=c.n
  rw [ha.tm.size,m1]
 ·show s'.tm.get i=none
  rw [m5,kL,if_neg (by have hi:c.n≤i:=hi;omega)]
 ·show VR R (getD' s'.tm i) _
  unfold getD'
  rw [m5,kL]
  by_cases hi:i<c.n
  ·rw [if_pos hi]
   show VR R (qX _ _ _) _
   have hv:=ha.tm.val i
   unfold qX
   split
   ·exact .bad _
   ·cases ho:nH c.next (getD' a1.tm i) with
    | true=>exact hv.down hd ho
    | false=>exact .bad _
  ·rw [if_neg hi];exact .bad _
 ·show DR R c.df A1.defers
  have:=ha.df
  rw [m2] at this
  exact DR.down hd hdf this
end Go.Ev
/- Loops over a map: whichever entry comes next. -/
namespace Go.Ev
open Go
variable {P:Program}
theorem Gs {o:Oper} {A:Act} {w w1:World} {x:Value} {rr:Option Nat} {n:Nat} {K:Act→World→Prop} {Q:Exit→Act→World→Prop} (hd:∀ c,o.op ≠ .defer c) (hx:(execOp A.eval o).run P w = .ok (.value x) w1) (h:K (A.put o.dst x) w1) :
 o.wpIn (FF rr) n P A w K Q:=⟨fun f _=>rC rr f,by rw [o8,Oper.semAt_eq rr A.eval o hd,hx];exact h⟩
theorem Dp {o:Oper} {ops:Array Oper} {l:List Oper} {A:Act} {w:World} {rr:Option Nat} {n:Nat} {Q:Exit→Act→World→Prop} (hg:o.guard=none) (h:o.wpIn (FF rr) n P A w (fun a w=>wpListIn (FF rr) n P ops Q l a w) Q) :
 wpListIn (FF rr) n P ops Q (o::l) A w:=by
 show if _ then _ else _
 rw [if_pos (by unfold Region.wanted;rw [hg])]
 exact h
theorem MJ {o:Oper} {x:Operand} {b:Bool} (h:o.op = .next x b) (ρ:Operand→Value):execOp ρ o=(do pure (Next.value (← Instr.next (ρ x) b o.type))):=by
 obtain ⟨d,op,t,p,af,g⟩:=o
 have h:op = .next x b:=h
 subst h;rfl
theorem Ic {o:Oper} {x:Operand} (h:o.op = .entry x) (ρ:Operand→Value):execOp ρ o=(do pure (Next.value (← Instr.entry (ρ x)))):=by
 obtain ⟨d,op,t,p,af,g⟩:=o
 have h:op = .entry x:=h
 subst h;rfl
theorem Ci {o:Oper} {x:Operand} {i:Nat} (h:o.op = .extract x i) (ρ:Operand→Value):execOp ρ o=(do pure (Next.value (← Instr.extract (ρ x) i))):=by
 obtain ⟨d,op,t,p,af,g⟩:=o
 have h:op = .extract x i:=h
 subst h;rfl
theorem Jk {o:Oper} {A:Act} {w w1:World} {x:Value} {s:Sem Value} {rr:Option Nat} {n:Nat} {K:Act→World→Prop} {Q:Exit→Act→World→Prop} (hd:∀ c,o.op ≠ .defer c) (he:execOp A.eval o=(do pure (Next.value (← s)))) (hx:s.run P w = .ok x w1) (h:K (A.put o.dst x) w1) :
 o.wpIn (FF rr) n P A w K Q:=Gs hd (by rw [he,run_bind_ok hx];rfl) h
theorem List.nodup_inj {α:Type}:∀ {l:List α},l.Nodup→∀ {i j:Nat} (hi:i<l.length) (hj:j<l.length),l[i]=l[j]→i=j
 | x::l,hn,0,0,_,_,_=>rfl
 | x::l,hn,0,j+1,_,hj,e=>by
  have:=(List.nodup_cons.1 hn).1
  simp only [List.getElem_cons_zero,List.getElem_cons_succ] at e
  exact absurd (e▸List.getElem_mem _) this
 | x::l,hn,i+1,0,hi,_,e=>by
  have:=(List.nodup_cons.1 hn).1
  simp only [List.getElem_cons_zero,List.getElem_cons_succ] at e
  exact absurd (e▸List.getElem_mem _) this
 | x::l,hn,i+1,j+1,hi,hj,e=>by
  simp only [List.getElem_cons_succ] at e
  rw [List.nodup_inj (List.nodup_cons.1 hn).2 (by simpa using hi) (by simpa using hj) e]
theorem EA.put_at {a:EA} {t:Nat} (h:t<a.n) (v:V):(a.put (some t) v).eval (.tmp t)=v:=by
 show getD' (EA.put a (some t) v).tm t=v
 show getD' (cond (Nat.blt t a.n) _ a).tm t=v
 rw [dB,if_pos h]
 unfold getD'
 rw [T.get_set_eq]
theorem EA.put_n {a:EA} (d:Option Tmp) (v:V):(a.put d v).n=a.n:=by
 cases d with
 | none=>rfl
 | some t=>show (cond (Nat.blt t a.n) (⟨a.tm.set t v,a.n,a.df⟩:EA) a).n=a.n;cases Nat.blt t a.n<;>rfl
theorem VN {Q:Ren} {H:EH} {w w1:World} {r:Nat} {ob:Obj} (hr:Rel Q All H w) (hu:WU w r ob w1) (hun:∀ b o d,H.objs.get b=some o→Q.bm b=some (r,d)→False) (hz:∃ b d,Q.bm b=some (r,d)):Rel Q All H w1 :=
 let ⟨b0,d0,e0⟩:=hz
 ⟨fun b r' d e=>by rw [hu.size];exact hr.img b r' d e,
  fun b o r' d ho hb=>(hr.obj b o r' d ho hb).mono (.refl _) hb (hu.old r' fun e=>by subst e;exact hun b o d ho hb) id (fun v=>by cases o<;>exact v),hr.inj,
  hr.frz.step rfl (fun r' _ hn=>hu.old r' fun e=>by subst e;exact hn b0 d0 e0) fun b r d e => .inr ⟨b,d,e⟩⟩
structure IM (c:MC) (Q:Ren) (w0:World) (rit rm:Nat) (seen:Array Nat) (s:St) (A:Act) (w:World):Prop where
 hk:HK c s
 ptr:xH (getD' s.tm c.it) c.itn=true
 rel:Rel Q All (c.heap s) w
 act:AR Q (c.act s) A
 it:w.heap[rit]?=some (.mapIter (some rm) c.clk seen c.clk)
 os:w.os=w0.os
 tape:w.tape=w0.tape
 output:w.output=w0.output
 size:w0.heap.size≤w.heap.size
 keep:∀ r,r<w0.heap.size→r≠rit→(∀ b o d,c.objs.get b=some o→Q.bm b=some (r,d)→aG b o<c.lo)→w.heap[r]?=w0.heap[r]?
structure LC (P:Program) (f:Task→Option Res) (ro rr:Option Nat) (ml:ML) (c:MC) (Q:Ren) (rit rm:Nat):Prop where
 wf:MCOk c
 tm:ml.t1<c.n∧ml.t2<c.n∧ml.t3<c.n∧ml.t1≠ml.t2∧ml.it≠ml.t1∧ml.it≠ml.t2
 it:c.it=ml.it
 qit:Q.bm c.itn=some (rit,0)
 mkp:∀ b o d,c.objs.get b=some o→Q.bm b=some (rm,d)→aG b o<c.lo
 ne:rm≠rit
 noit:∀ b o d,c.objs.get b=some o→Q.bm b=some (rit,d)→False
 free:∀ b,c.next≤b→b<c.nx→Q.bm b=none∧∀ r,Q.cz b r=none
 df:∀ b,b∈c.df→b<c.next
 ro:Ro Q ro rr
structure LZ (c:MC) (Q:Ren) (rm:Nat) (w0:World) (es':Array MapEntry) (z:List EE):Prop where
 at0:w0.heap[rm]?=some (.map es' c.clk)
 fst:z.map Prod.fst=c.es
 snd:(z.map Prod.snd).Perm es'.toList
 ok:∀ p,p∈z→EOk Q p
 nd:(es'.toList.map (·.born)).Nodup
 lt:∀ x,x∈es'.toList→x.born<c.clk
theorem LZ.nz {c:MC} {Q:Ren} {rm:Nat} {w0:World} {es':Array MapEntry} {z:List EE} (h:LZ c Q rm w0 es' z):(z.map fun p=>p.2.born).Nodup:=by
 have:=(h.snd.map (·.born)).nodup_iff.2 h.nd
 rwa [List.map_map] at this
theorem LZ.len {c:MC} {Q:Ren} {rm:Nat} {w0:World} {es':Array MapEntry} {z:List EE} (h:LZ c Q rm w0 es' z):z.length=c.es.length:=by rw [← h.fst];simp
theorem LZ.es {c:MC} {Q:Ren} {rm:Nat} {w0:World} {es':Array MapEntry} {z:List EE} (h:LZ c Q rm w0 es' z) {j:Nat} {p:EE} (hj:z[j]?=some p):c.es[j]?=some p.1:=by rw [← h.fst,List.getElem?_map,hj];rfl
theorem LZ.to {c:MC} {Q:Ren} {rm:Nat} {w0:World} {es':Array MapEntry} {z:List EE} (h:LZ c Q rm w0 es' z) {e:MapEntry} (he:e∈es'.toList):∃ (j:Nat) (p:EE),z[j]?=some p∧p.2=e:=by
 obtain ⟨p,hp,e1⟩:=List.mem_map.1 (h.snd.mem_iff.2 he)
 obtain ⟨j,hj⟩:=List.getElem?_of_mem hp
 exact ⟨j,p,hj,e1⟩
theorem LZ.back {c:MC} {Q:Ren} {rm:Nat} {w0:World} {es':Array MapEntry} {z:List EE} (h:LZ c Q rm w0 es' z) {j:Nat} {p:EE} (hj:z[j]?=some p):p.2∈es'.toList :=
 h.snd.mem_iff.1 (List.mem_map.2 ⟨p,List.mem_of_getElem? hj,rfl⟩)
theorem LZ.diff {c:MC} {Q:Ren} {rm:Nat} {w0:World} {es':Array MapEntry} {z:List EE} (h:LZ c Q rm w0 es' z) {j j':Nat} {p p':EE} (hj:z[j]?=some p) (hj':z[j']?=some p') (hb:p'.2.born=p.2.born):j'=j:=by
 have hj1:(z.map fun p=>p.2.born)[j']?=some p'.2.born:=by rw [List.getElem?_map,hj'];rfl
 have hj2:(z.map fun p=>p.2.born)[j]?=some p.2.born:=by rw [List.getElem?_map,hj];rfl
 rw [hb] at hj1
 obtain ⟨a1,a2⟩:=List.getElem?_eq_some_iff.1 hj1
 obtain ⟨b1,b2⟩:=List.getElem?_eq_some_iff.1 hj2
 exact List.nodup_inj h.nz a1 b1 (a2.trans b2.symm)
theorem zZ {f:Task→Option Res} {ro rr:Option Nat} {ml:ML} {c:MC} {Q:Ren} {rit rm:Nat} (hl:LC P f ro rr ml c Q rit rm) {s:St} (hk:HK c s):∀ b o d,(c.heap s).objs.get b=some o→Q.bm b=some (rit,d)→False:=fun b o d ho hb=>by
 obtain ⟨o0,h0,_⟩:=hk.some ho
 exact hl.noit b o0 d h0 hb
theorem P6 {v:V} {b:Nat} (h:xH v b=true):v = .ptr b 0:=by
 unfold xH at h
 split at h
 ·rw [nb h]
 ·cases h
theorem IM.itv {f:Task→Option Res} {ro rr:Option Nat} {ml:ML} {c:MC} {Q:Ren} {rit rm:Nat} (hl:LC P f ro rr ml c Q rit rm) {w0:World} {seen:Array Nat} {s:St} {A:Act} {w:World} (h:IM c Q w0 rit rm seen s A w):A.eval (.tmp ml.it) = .pointer (some ⟨rit,0,none⟩):=by
 have hv:VR Q ((c.act s).eval (.tmp ml.it)) (A.eval (.tmp ml.it)):=h.act.eval (.tmp ml.it)
 have e:(c.act s).eval (.tmp ml.it) = .ptr c.itn 0:=by have:=P6 h.ptr;rw [hl.it] at this;exact this
 rw [e] at hv
 generalize A.eval (.tmp ml.it)=x at hv
 cases hv with
 | ptr hm ho =>
  rw [hl.qit] at hm
  cases hm
  have ho:_=0:=ho
  simp at ho
  subst ho;rfl
theorem IM.map {f:Task→Option Res} {ro rr:Option Nat} {ml:ML} {c:MC} {Q:Ren} {rit rm:Nat} (hl:LC P f ro rr ml c Q rit rm) {w0:World} {es':Array MapEntry} {z:List EE} (hz:LZ c Q rm w0 es' z) {seen:Array Nat} {s:St} {A:Act} {w:World} (h:IM c Q w0 rit rm seen s A w) :
 w.heap[rm]?=some (.map es' c.clk):=by
 have hlt:rm<w0.heap.size:=by
  rcases Nat.lt_or_ge rm w0.heap.size with q | q
  ·exact q
  ·have:=hz.at0;simp [Array.getElem?_eq_none q] at this
 rw [h.keep rm hlt hl.ne hl.mkp];exact hz.at0
theorem yK {f:Task→Option Res} {ro rr:Option Nat} {ml:ML} {c:MC} {Q:Ren} {rit rm:Nat} (hl:LC P f ro rr ml c Q rit rm) {body:Code} {i1 i2:Nat} {o1 o3:Oper} (hb:MLOk ml body i1 i2 o1 o3) {s:St} {A:Act} {w w1:World} {n:Nat} {tl:List Value} {vl:List V} {b:Bool} (hv:AL Q vl tl.toArray)
 (hact:AR Q (c.act s) A) (hrun:(Instr.next (A.eval (.tmp ml.it)) false o1.type).run P w = .ok (.tuple (#[.bool b]++tl.toArray)) w1) {QP:Exit→Act→World→Prop}
 (h:∀ A2,AR Q (((c.act s).put (some ml.t1) (.tup (.bool b::vl))).put (some ml.t2) (.bool b)) A2→A2.eval (.tmp ml.t2) = .bool b→A2.eval (.tmp ml.it)=A.eval (.tmp ml.it)→QP .normal A2 w1) :
 (Code.region i1 ml.ops1 false).wpIn (FF rr) n P QP A w:=by
 obtain ⟨t1,t2,t3,t12,ti1,ti2⟩:=hl.tm
 refine wpIn_region_list ?_
 rw [hb.l1]
 refine Dp hb.o1.2.2 (Jk (fun c e=>by rw [hb.o1.1] at e;cases e) (MJ hb.o1.1 A.eval) hrun ?_)
 rw [hb.o1.2.1]
 have hvt:VR Q (.tup (.bool b::vl)) (.tuple (#[.bool b]++tl.toArray)):=by
  have:=AL.append (AL.one (VR.bool (R:=Q) b)) hv
  exact .tup this.1 this.2
 have ha1:=hact.put (some ml.t1) hvt
 have hx:VR Q (.tup (.bool b::vl)) ((A.put (some ml.t1) (.tuple (#[.bool b]++tl.toArray))).eval (.tmp ml.t1)):=by
  have:=ha1.eval (.tmp ml.t1)
  rwa [EA.put_at (by show ml.t1<c.n;exact t1)] at this
 obtain ⟨_,y,e1,e2⟩:=ul (P:=P) (w:=w1) (H:=Qn) (H':=Qn) (i:=0) (v := .bool b) hx rfl
 have hy:y = .bool b:=by cases e2;rfl
 subst hy
 refine Dp hb.o2.2.2 (Jk (fun c e=>by rw [hb.o2.1] at e;cases e) (Ci hb.o2.1 _) e1 ?_)
 rw [hb.o2.2.1]
 have ha2:=ha1.put (some ml.t2) (VR.bool (R:=Q) b)
 refine h _ ha2 ?_ ?_
 ·have:=ha2.eval (.tmp ml.t2)
  rw [EA.put_at (by rw [EA.put_n];exact t2)] at this
  generalize Act.eval _ _=z at this ⊢
  cases this;rfl
 ·have hput:∀ (B:Act) (t u:Nat) (x:Value),u≠t→(B.put (some t) x).eval (.tmp u)=B.eval (.tmp u):=fun B t u x hne=>by
   show (B.tmps.setIfInBounds t x).getD u undef=B.tmps.getD u undef
   simp only [Array.getD,Array.size_setIfInBounds]
   split
   ·exact Array.getElem_setIfInBounds_ne _ (Ne.symm hne)
   ·rfl
  rw [hput _ _ _ _ ti2,hput _ _ _ _ ti1]
theorem Jd {f:Task→Option Res} {ro:Option Nat} {ml:ML} {c:MC} {s s':St} {k v:V} (h:stepM P f ro ml c s k v=some s'):∃ a4 H4,dY P f ro ml (c.act s) (c.heap s) k v=some (.normal a4 H4)∧lD c a4 H4=some s':=by
 unfold stepM U7 at h
 split at h
 ·rename_i a H e;exact ⟨a,H,e,h⟩
 ·cases h
theorem Jh {r:Option Res} {a:EA} {H:EH} (h:QL r=some (a,H)):r=some (.normal a H):=by
 unfold QL at h
 split at h
 ·cases h;rfl
 ·cases h
theorem Oc {id:Nat} {r r':Res} (h:gU id (some r)=some r'):r.H=r'.H:=by
 cases r with
 | v v H'=>cases h;rfl
 | normal a' H'=>cases h;rfl
 | ret a' H'=>cases h;rfl
 | exit id' a' H' =>
  have h:cond (Nat.beq id' id) (some (Res.normal a' H')) (some (.exit id' a' H'))=some r':=h
  cases hh:Nat.beq id' id<;>rw [hh] at h<;>cases h<;>rfl
theorem jV {f:Task→Option Res} (hs:dQ P f) {ro rr:Option Nat} {ml:ML} {c:MC} {Q:Ren} {rit rm:Nat} (hl:LC P f ro rr ml c Q rit rm) {body:Code} {i1 i2:Nat} {o1 o3:Oper} (hb:MLOk ml body i1 i2 o1 o3) {s:St} {r:Res} {A2:Act} {w1:World} {n:Nat} {k v:V} {seen:Array Nat} {es':Array MapEntry} {e:MapEntry}
 (hk:HK c s) (hr:dY P f ro ml (c.act s) (c.heap s) k v=some r) (hnx:r.H.next≤c.nx) (hrel:Rel Q All (c.heap s) w1) (ha2:AR Q (((c.act s).put (some ml.t1) (.tup [.bool true,k,v])).put (some ml.t2) (.bool true)) A2) (hit:A2.eval (.tmp ml.it) = .pointer (some ⟨rit,0,none⟩))
 (hi:w1.heap[rit]?=some (.mapIter (some rm) c.clk (seen.push e.born) c.clk)) (hm:w1.heap[rm]?=some (.map es' c.clk)) (he:e∈es'.toList) (hn:(es'.toList.map (·.born)).Nodup) (hkv:VR Q k e.key∧VR Q v e.val) {QP:Exit→Act→World→Prop}
 (h:∀ ex A w R4,SimA Q R4 (c.heap s) r.H w1 w→ExitR R4 r ex A→QP ex A w) :
 (Code.block ml.cid (.seq (.region i2 ml.ops false) ml.rest)).wpIn (FF rr) n P QP A2 w1:=by
 obtain ⟨t1,t2,t3,t12,ti1,ti2⟩:=hl.tm
 unfold dY at hr
 split at hr
 ·rename_i a3 H3 hev
  have hev:=Jh hev
  refine wpIn_block (wpIn_seq (wpIn_region_list ?_))
  rw [hb.l2]
  refine Dp hb.o3.2.2 (Jk (fun c e=>by rw [hb.o3.1] at e;cases e) (Ic hb.o3.1 _) (by rw [hit];exact zH hi hm he hn) ?_)
  rw [hb.o3.2.1]
  have hvt:VR Q (.tup [k,v]) (.tuple #[e.key,e.val]):=by
   have:=AL.append (AL.one hkv.1) (AL.one hkv.2)
   exact .tup this.1 this.2
  have ha3:=ha2.put (some ml.t3) hvt
  obtain ⟨a3',H3',e3,n3,k3⟩:=Af hs ml.ops ml.tl _ _ _ hev
  cases e3
  cases hf4:f (.code ro ml.rest a3 H3) with
  | none=>rw [hf4] at hr;cases hr
  | some r4 =>
   rw [hf4] at hr
   obtain ⟨p1,p2,m,p3⟩:=hs _ _ hf4
   have hwf:=hk.wf hl.wf
   have hr4:r4.H=r.H:=Oc hr
   have hfree4:Free Q (c.heap s) r4.H:=fun b hb hb'=>hl.free b hb (by rw [hr4] at hb';omega)
   have hfree:Free Q (c.heap s) H3:=hfree4.less p2
   refine k3 Q w1 _ n rr hrel hwf hfree ha3 _ fun R' w' A' ha' hsim'=>?_
   have hle:=hsim'.le hrel hfree
   have hw4:=wpM.wp (p3 R' w' A' n rr hsim'.rel hsim'.wf (hsim'.free hfree4) ha' (hl.ro.mono hle))
   refine Go.wpIn_mono hw4 fun ex A4 w4 ⟨R4,s4,x4⟩=>?_
   have hsim:=hsim'.trans s4
   rw [hr4] at hsim
   cases r4 with
   | v v H'=>exact absurd rfl (p1 v H')
   | normal a H =>
    have hr:some (Res.normal a H)=some r:=hr
    cases hr
    cases ex<;>try exact x4.elim
    exact h .normal A4 w4 R4 hsim x4
   | ret a H =>
    have hr:some (Res.ret a H)=some r:=hr
    cases hr
    cases ex<;>try exact x4.elim
    exact h .ret A4 w4 R4 hsim x4
   | exit id a H =>
    have hr:cond (Nat.beq id ml.cid) (some (Res.normal a H)) (some (.exit id a H))=some r:=hr
    rw [aH] at hr
    by_cases e:id=ml.cid
    ·rw [if_pos e] at hr
     cases hr
     cases ex<;>try exact x4.elim
     obtain ⟨y1,y2⟩:=x4
     show if _ then _ else _
     rw [if_pos (y1.trans e)]
     exact h .normal A4 w4 R4 hsim y2
    ·rw [if_neg e] at hr
     cases hr
     cases ex<;>try exact x4.elim
     obtain ⟨y1,y2⟩:=x4
     show if _ then _ else _
     rw [if_neg (by rw [y1];exact e)]
     exact h (.exit _) A4 w4 R4 hsim ⟨y1,y2⟩
 ·cases hr
theorem sZ {f:Task→Option Res} {ro rr:Option Nat} {ml:ML} {c:MC} {Q:Ren} {rit rm:Nat} (hl:LC P f ro rr ml c Q rit rm) {s s':St} {w0 w1 w4:World} {a4:EA} {H4:EH} {A4:Act} {R4:Ren} {tb:T V} {seen':Array Nat}
 (hk:HK c s) (hrel:Rel Q All (c.heap s) w1) (hi:w1.heap[rit]?=some (.mapIter (some rm) c.clk seen' c.clk))
 (hos:w1.os=w0.os) (htape:w1.tape=w0.tape) (hout:w1.output=w0.output) (hsize:w0.heap.size≤w1.heap.size)
 (hkeep:∀ r,r<w0.heap.size→r≠rit→(∀ b o d,c.objs.get b=some o→Q.bm b=some (r,d)→aG b o<c.lo)→w1.heap[r]?=w0.heap[r]?)
 (hsim:SimA Q R4 (c.heap s) H4 w1 w4) (ha:AR R4 a4 A4) (hmk:lD (c.wb tb) a4 H4=some s'):IM c Q w0 rit rm seen' s' A4 w4:=by
 obtain ⟨q1,q2,q3,q4,q10,q6,q7,q8,q9⟩:=eQ hmk
 obtain ⟨k1,k2,k3⟩:=trunc (c:=c.wb tb) ⟨hl.wf.wf⟩ (s:=s) ⟨hk.dom,hk.root,hk.keep⟩ hrel hl.df hsim ha hmk
 have hrit:rit<w1.heap.size:=by
  rcases Nat.lt_or_ge rit w1.heap.size with q | q
  ·exact q
  ·simp [Array.getElem?_eq_none q] at hi
 refine ⟨⟨k1.dom,k1.root,k1.keep⟩,q6,k2,k3,?_,hsim.fr.os.trans hos,hsim.fr.tape.trans htape,hsim.fr.output.trans hout,Nat.le_trans hsize hsim.fr.size,fun r hr hne hun=>?_⟩
 ·rw [hsim.fr.keep rit hrit fun b o d ho hb=>(zZ hl hk b o d ho hb).elim]
  exact hi
 ·rw [hsim.fr.keep r (by omega) fun b o d ho hb q=>?_]
  ·exact hkeep r hr hne hun
  ·obtain ⟨o0,p0,p1,_⟩:=hk.some ho
   have:=hun b o0 d p0 hb
   have q:H4.low≤aG b o:=q
   have q3:c.lo≤H4.low:=q3
   omega
theorem qH {f:Task→Option Res} {ro rr:Option Nat} {ml:ML} {c:MC} {Q:Ren} {rit rm:Nat} (hl:LC P f ro rr ml c Q rit rm) {body:Code} {i1 i2:Nat} {o1 o3:Oper} (hb:MLOk ml body i1 i2 o1 o3) {w0:World} {es':Array MapEntry} {z:List EE} (hz:LZ c Q rm w0 es' z) {n m:Nat} {QP:Exit→Act→World→Prop} {seen:Array Nat} {s:St} {A:Act} {w:World} (hI:IM c Q w0 rit rm seen s A w)
 (h0:(∀ (j:Nat) (p:EE),z[j]?=some p→seen.contains p.2.born=true)→∀ A2,AR Q (((c.act s).put (some ml.t1) (.tup [.bool false])).put (some ml.t2) (.bool false)) A2→QP (.exit ml.id) A2 w)
 (h1:∀ (j:Nat) (p:EE),z[j]?=some p→seen.contains p.2.born=false→∀ w1 A2,Rel Q All (c.heap s) w1→AR Q (((c.act s).put (some ml.t1) (.tup [.bool true,p.1.1,p.1.2.1])).put (some ml.t2) (.bool true)) A2→A2.eval (.tmp ml.it) = .pointer (some ⟨rit,0,none⟩)→w1.heap[rit]?=some (.mapIter (some rm) c.clk (seen.push p.2.born) c.clk)→w1.heap[rm]?=some (.map es' c.clk) →
  w1.os=w0.os→w1.tape=w0.tape→w1.output=w0.output→w0.heap.size≤w1.heap.size→(∀ r,r<w0.heap.size→r≠rit→(∀ b o d,c.objs.get b=some o→Q.bm b=some (r,d)→aG b o<c.lo)→w1.heap[r]?=w0.heap[r]?) →
  (Code.block ml.cid (.seq (.region i2 ml.ops false) ml.rest)).wpIn (FF rr) n P (Exit.then (Code.roundsIn (FF rr) n P body QP m) QP) A2 w1) :
 Code.roundsIn (FF rr) n P body QP (m+1) A w:=by
 have hm:=hI.map hl hz
 rw [roundsIn_succ]
 generalize hX:Exit.then (Code.roundsIn (FF rr) n P body QP _) QP=X at h1 ⊢
 have hXe:∀ id A w,X (.exit id) A w=QP (.exit id) A w:=fun _ _ _=>by rw [← hX];rfl
 rw [hb.body]
 rcases run_next_any (P:=P) hI.it hm hz.lt o1.type with ⟨hsz,hrun⟩ | ⟨e,he,w1,hu,hrun⟩
 ·refine wpIn_seq (yK hl hb (tl:=[]) (vl:=[]) (b:=false) (AL.nil _) hI.act (by rw [hI.itv hl];exact hrun) fun A2 ha2 ht _=>?_)
  refine wpIn_seq (wpIn_cond_false ht (wpIn_exit ?_))
  show X (.exit ml.id) A2 w
  rw [hXe]
  refine h0 (fun j p hj=>?_) A2 ha2
  cases hc:seen.contains p.2.born with
  | true=>rfl
  | false =>
   exfalso
   have:p.2∈(es'.filter fun e => !seen.contains e.born).toList:=by
    simp only [Array.toList_filter,List.mem_filter]
    exact ⟨hz.back hj,by rw [hc];rfl⟩
   have hsz:(es'.filter fun e => !seen.contains e.born).size=0:=hsz
   have:(es'.filter fun e => !seen.contains e.born).toList.length≠0:=fun q=>by rw [List.eq_nil_of_length_eq_zero q] at this;cases this
   simp only [Array.length_toList] at this
   exact this hsz
 ·have he:e∈(es'.filter fun e => !seen.contains e.born).toList:=he
  simp only [Array.toList_filter,List.mem_filter] at he
  obtain ⟨he1,he2⟩:=he
  obtain ⟨j,p,hj,rfl⟩:=hz.to he1
  obtain ⟨g2,g3⟩:=hz.ok p (List.mem_of_getElem? hj)
  refine wpIn_seq (yK hl hb (tl:=[p.2.key,p.2.val]) (vl:=[p.1.1,p.1.2.1]) (b:=true) (AL.append (AL.one g2) (AL.one g3)) hI.act (by rw [hI.itv hl];exact hrun) fun A2 ha2 ht hit=>?_)
  refine wpIn_seq (wpIn_cond_true ht (wpIn_skip ?_))
  exact h1 j p hj (by simpa using he2) w1 A2 (VN hI.rel hu (zZ hl hI.hk) ⟨c.itn,0,hl.qit⟩) ha2 (by rw [hit];exact hI.itv hl) hu.neu (by rw [hu.old rm hl.ne];exact hm)
   (hu.os.trans hI.os) (hu.tape.trans hI.tape) (hu.output.trans hI.output) (by rw [hu.size];exact hI.size) (fun r hr hne hun=>by rw [hu.old r hne];exact hI.keep r hr hne hun)
theorem mem_push {c:MC} {Q:Ren} {rm:Nat} {w0:World} {es':Array MapEntry} {z:List EE} (hz:LZ c Q rm w0 es' z) {rem:List Nat} (hnd:rem.Nodup) {seen:Array Nat} (hmem:∀ (j:Nat) (p:EE),z[j]?=some p→(j∈rem↔seen.contains p.2.born=false)) {j:Nat} {p:EE} (hj:z[j]?=some p) :
 ∀ (j':Nat) (p':EE),z[j']?=some p'→(j'∈rem.erase j↔(seen.push p.2.born).contains p'.2.born=false):=fun j' p' hj'=>by
 rw [hnd.mem_erase_iff,hmem j' p' hj']
 have hsc:(seen.push p.2.born).contains p'.2.born=(seen.contains p'.2.born||decide (p'.2.born=p.2.born)):=by simp
 rw [hsc]
 by_cases ej:j'=j
 ·subst ej
  rw [hj] at hj';cases hj'
  simp
 ·have hdist:p'.2.born≠p.2.born:=fun q=>ej (hz.diff hj hj' q)
  simp [ej,hdist]
theorem Dt {f:Task→Option Res} (hs:dQ P f) {ro rr:Option Nat} {ml:ML} {c:MC} {Q:Ren} {rit rm:Nat} (hl:LC P f ro rr ml c Q rit rm) {body:Code} {i1 i2:Nat} {o1 o3:Oper} (hb:MLOk ml body i1 i2 o1 o3) {w0:World} {es':Array MapEntry} {z:List EE} (hz:LZ c Q rm w0 es' z) {n fin:Nat} {st:List St} {tab:List (List Nat)}
 (htab:tab.length=st.length) (hrow:∀ (i:Nat) (row:List Nat),tab[i]?=some row→∃ s,st[i]?=some s∧RowOk (stepM P f ro ml c s) c.es st row) (hcomm:zk tab st.length c.es.length=true) {QP:Exit→Act→World→Prop}
 (hend:∀ s seen A w A2,st[fin]?=some s→IM c Q w0 rit rm seen s A w→AR Q (((c.act s).put (some ml.t1) (.tup [.bool false])).put (some ml.t2) (.bool false)) A2→QP (.exit ml.id) A2 w) :
 ∀ (L:Nat) (rem:List Nat) (i:Nat) (s:St) (seen:Array Nat) (A:Act) (w:World),rem.length=L→rem.Nodup→(∀ x∈rem,x<c.es.length)→st[i]?=some s→rem.foldl (jR tab) i=fin →
  (∀ (j:Nat) (p:EE),z[j]?=some p→(j∈rem↔seen.contains p.2.born=false))→IM c Q w0 rit rm seen s A w→Code.roundsIn (FF rr) n P body QP (L+1) A w:=by
 have hnext:∀ i j,i<st.length→j<c.es.length→∃ s s' e,st[i]?=some s∧c.es[j]?=some e∧stepM P f ro ml c s e.1 e.2.1=some s'∧st[jR tab i j]?=some s':=fun i j hi hj=>by
  have h1:tab[i]?=some tab[i]:=List.getElem?_eq_some_iff.2 ⟨by omega,rfl⟩
  have h2:c.es[j]?=some c.es[j]:=List.getElem?_eq_some_iff.2 ⟨hj,rfl⟩
  obtain ⟨s,e1,e2,e3⟩:=hrow i _ h1
  obtain ⟨s',x,f1,f2,f3⟩:=e3 j _ h2
  refine ⟨s,s',c.es[j],e1,h2,f1,?_⟩
  rw [TF tab h1 f2];exact f3
 have hcl:∀ i j,i<st.length→j<c.es.length→jR tab i j<st.length:=fun i j hi hj=>by
  obtain ⟨s,s',e,_,_,_,h4⟩:=hnext i j hi hj
  exact (List.getElem?_eq_some_iff.1 h4).1
 intro L
 induction L with
 | zero =>
  intro rem i s seen A w hL hnd hlt hs0 hfin hmem hI
  have:rem=[]:=List.eq_nil_of_length_eq_zero hL
  subst this
  have hfin:i=fin:=hfin
  subst hfin
  refine qH hl hb hz hI (fun _ A2 ha2=>hend s seen A w A2 hs0 hI ha2) fun j p hj hns=>?_
  have:=(hmem j p hj).2 hns
  cases this
 | succ L ih =>
  intro rem i s seen A w hL hnd hlt hs0 hfin hmem hI
  refine qH hl hb hz hI (fun hall=>?_) fun j p hj hns w1 A2 hrel ha2 hit hi hm hos htape hout hsize hkeep=>?_
  ·exfalso
   match rem,hL with
   | x::rem',_ =>
    have hx:=hlt x (by simp)
    have h2:z[x]?=some (z[x]'(by rw [hz.len];exact hx)):=List.getElem?_eq_some_iff.2 ⟨_,rfl⟩
    have h3:=(hmem x _ h2).1 (by simp)
    rw [hall x _ h2] at h3;cases h3
  ·have hjr:=(hmem j p hj).2 hns
   have hil:i<st.length:=(List.getElem?_eq_some_iff.1 hs0).1
   obtain ⟨s1,s',e1,p1,p2,p3,p4⟩:=hnext i j hil (hlt j hjr)
   rw [hs0] at p1;cases p1
   rw [hz.es hj] at p2;cases p2
   obtain ⟨a4,H4,hr,hmk⟩:=Jd p3
   refine jV hs hl hb (seen:=seen) (es':=es') (e:=p.2) hI.hk hr (eQ hmk).2.2.2.2.1 hrel ha2 hit hi hm (hz.back hj) hz.nd (hz.ok p (List.mem_of_getElem? hj)) fun ex A' w' R4 hsim hex=>?_
   cases ex<;>try exact hex.elim
   exact ih (rem.erase j) (jR tab i j) s' (seen.push p.2.born) A' w' (by rw [List.length_erase_of_mem hjr];omega) (hnd.erase _) (fun x hx=>hlt x (List.mem_of_mem_erase hx)) p4
    (by rw [Ir hcomm hcl rem i j hil hlt hjr];exact hfin) (mem_push hz hnd hmem hj) (sZ hl (tb:=c.base) hI.hk hrel hi hos htape hout hsize hkeep hsim hex hmk)
theorem zu {f:Task→Option Res} (hs:dQ P f) {ro rr:Option Nat} {ml:ML} {c:MC} {Q:Ren} {rit rm:Nat} (hl:LC P f ro rr ml c Q rit rm) {body:Code} {i1 i2:Nat} {o1 o3:Oper} (hb:MLOk ml body i1 i2 o1 o3) {w0:World} {es':Array MapEntry} {z:List EE} (hz:LZ c Q rm w0 es' z) {n j0:Nat} {p0:EE} {s:St} {QP:Exit→Act→World→Prop}
 (hj0:z[j0]?=some p0) (hx0:∀ a H,dY P f ro ml (c.act s) (c.heap s) p0.1.1 p0.1.2.1≠some (.normal a H))
 (hall:∀ (j:Nat) (p:EE),z[j]?=some p→(∃ a H,dY P f ro ml (c.act s) (c.heap s) p.1.1 p.1.2.1=some (.normal a H)∧lD c a H=some s) ∨
  (∃ a H s',dY P f ro ml (c.act s) (c.heap s) p.1.1 p.1.2.1=some (.ret a H)∧lD (c.wb a.tm) a H=some s'∧∀ seen A w,IM c Q w0 rit rm seen s' A w→QP .ret A w) ∨
  (∃ id a H s',dY P f ro ml (c.act s) (c.heap s) p.1.1 p.1.2.1=some (.exit id a H)∧lD (c.wb a.tm) a H=some s'∧∀ seen A w,IM c Q w0 rit rm seen s' A w→QP (.exit id) A w)) :
 ∀ (L:Nat) (rem:List Nat) (seen:Array Nat) (A:Act) (w:World),rem.length=L→rem.Nodup→j0∈rem →
  (∀ (j:Nat) (p:EE),z[j]?=some p→(j∈rem↔seen.contains p.2.born=false))→IM c Q w0 rit rm seen s A w→Code.roundsIn (FF rr) n P body QP (L+1) A w:=by
 intro L
 induction L with
 | zero =>
  intro rem seen A w hL hnd h0 hmem hI
  have:rem=[]:=List.eq_nil_of_length_eq_zero hL
  subst this
  cases h0
 | succ L ih =>
  intro rem seen A w hL hnd h0 hmem hI
  refine qH hl hb hz hI (fun hal=>?_) fun j p hj hns w1 A2 hrel ha2 hit hi hm hos htape hout hsize hkeep=>?_
  ·exfalso
   have h3:=(hmem j0 p0 hj0).1 h0
   rw [hal j0 p0 hj0] at h3;cases h3
  ·have hjr:=(hmem j p hj).2 hns
   have hkv:=hz.ok p (List.mem_of_getElem? hj)
   rcases hall j p hj with ⟨a,H,hr,hmk⟩ | ⟨a,H,s',hr,hmk,hq⟩ | ⟨id,a,H,s',hr,hmk,hq⟩
   ·refine jV hs hl hb (seen:=seen) (es':=es') (e:=p.2) hI.hk hr (eQ hmk).2.2.2.2.1 hrel ha2 hit hi hm (hz.back hj) hz.nd hkv fun ex A' w' R4 hsim hex=>?_
    cases ex<;>try exact hex.elim
    have hne:j0≠j:=fun e=>by
     subst e
     rw [hj0] at hj;cases hj
     exact hx0 a H hr
    exact ih (rem.erase j) (seen.push p.2.born) A' w' (by rw [List.length_erase_of_mem hjr];omega) (hnd.erase _) ((hnd.mem_erase_iff).2 ⟨hne,h0⟩) (mem_push hz hnd hmem hj) (sZ hl (tb:=c.base) hI.hk hrel hi hos htape hout hsize hkeep hsim hex hmk)
   ·refine jV hs hl hb (seen:=seen) (es':=es') (e:=p.2) hI.hk hr (eQ hmk).2.2.2.2.1 hrel ha2 hit hi hm (hz.back hj) hz.nd hkv fun ex A' w' R4 hsim hex=>?_
    cases ex<;>try exact hex.elim
    exact hq _ A' w' (sZ hl (tb:=a.tm) hI.hk hrel hi hos htape hout hsize hkeep hsim hex hmk)
   ·refine jV hs hl hb (seen:=seen) (es':=es') (e:=p.2) hI.hk hr (eQ hmk).2.2.2.2.1 hrel ha2 hit hi hm (hz.back hj) hz.nd hkv fun ex A' w' R4 hsim hex=>?_
    cases ex<;>try exact hex.elim
    obtain ⟨e1,e2⟩:=hex
    have:=hq _ A' w' (sZ hl (tb:=a.tm) hI.hk hrel hi hos htape hout hsize hkeep hsim e2 hmk)
    rw [e1]
    exact this
end Go.Ev
/- Loops over a map: the evaluator's answer is the machine's. -/
namespace Go.Ev
open Go
variable {P:Program}
theorem KA {n:Nat}:∀ {l:List Nat},ltL n l=true→∀ x,x∈l→x<n
 | [],_,x,h=>by cases h
 | y::l,h,x,hx=>by
  have h:cond (Nat.blt y n) (ltL n l) false=true:=h
  obtain ⟨h1,h2⟩:=ax h
  cases hx with
  | head=>exact dh h1
  | tail _ hx=>exact KA h2 x hx
theorem xQ:∀ (l:List Oper) (tm:T V) (i:Nat),(G7 l tm).get i=tm.get i∨(G7 l tm).get i=some .bad
 | [],tm,i => .inl rfl
 | o::l,tm,i=>by
  show (match o.dst with | some t=>(G7 l tm).set t .bad | none=>G7 l tm).get i=_∨(match o.dst with | some t=>(G7 l tm).set t .bad | none=>G7 l tm).get i=_
  cases o.dst with
  | none=>exact xQ l tm i
  | some t =>
   simp only [T.get_set]
   by_cases e:i=t
   ·rw [if_pos e];exact .inr rfl
   ·rw [if_neg e];exact xQ l tm i
theorem UI (a b c:Nat):bW a (bW b c)≤a∧bW a (bW b c)≤b∧bW a (bW b c)≤c:=by simp only [gW];omega
theorem Qu {n:Nat} {ml:ML} (h:Tq n ml=true):ml.t1<n∧ml.t2<n∧ml.t3<n∧ml.t1≠ml.t2∧ml.it≠ml.t1∧ml.it≠ml.t2:=by
 unfold Tq at h
 obtain ⟨h1,h⟩:=ax h
 obtain ⟨h2,h⟩:=ax h
 obtain ⟨h3,h⟩:=ax h
 refine ⟨dh h1,dh h2,dh h3,fun e=>?_,fun e=>?_,fun e=>?_⟩
 ·have:Nat.beq ml.t1 ml.t2=true:=by rw [rY];exact decide_eq_true e
  rw [this] at h;cases h
 ·have:Nat.beq ml.it ml.t1=true:=by rw [rY];exact decide_eq_true e
  rw [this] at h
  cases hh:Nat.beq ml.t1 ml.t2<;>rw [hh] at h<;>cases h
 ·have:Nat.beq ml.it ml.t2=true:=by rw [rY];exact decide_eq_true e
  rw [this] at h
  cases hh:Nat.beq ml.t1 ml.t2<;>rw [hh] at h<;>cases hh':Nat.beq ml.it ml.t1<;>rw [hh'] at h<;>cases h
def tmLe (t u:T V) (n:Nat):Prop:=(∀ i,i<n→getD' t i = .bad∨getD' t i=getD' u i)∧∀ i,n≤i→t.get i=none
theorem Ai (t u:T V):∀ (n i:Nat),(sO t u n).get i=if i<n then some (cond (mO (getD' t i) (getD' u i)) (getD' t i) .bad) else none:=by
 intro n
 induction n with
 | zero=>intro i;rw [if_neg (by omega)];rfl
 | succ n ih =>
  intro i
  show ((sO t u n).set n (cond (mO (getD' t n) (getD' u n)) (getD' t n) .bad)).get i=_
  rw [T.get_set,ih]
  by_cases e:i=n
  ·subst e;simp
  ·rw [if_neg e]
   by_cases h:i<n
   ·rw [if_pos h,if_pos (by omega)]
   ·rw [if_neg h,if_neg (by omega)]
theorem Q9 (t u:T V) (n:Nat):tmLe (sO t u n) t n∧tmLe (sO t u n) u n:=by
 have hg:∀ i,i<n→getD' (sO t u n) i=cond (mO (getD' t i) (getD' u i)) (getD' t i) .bad:=fun i hi=>by
  show (match (sO t u n).get i with | some v=>v | none => .bad)=_
  rw [Ai,if_pos hi]
 have hn:∀ i,n≤i→(sO t u n).get i=none:=fun i hi=>by rw [Ai,if_neg (by omega)]
 refine ⟨⟨fun i hi=>?_,hn⟩,⟨fun i hi=>?_,hn⟩⟩
 ·rw [hg i hi]
  cases mO (getD' t i) (getD' u i) with
  | true=>exact .inr rfl
  | false=>exact .inl rfl
 ·rw [hg i hi]
  cases he:mO (getD' t i) (getD' u i) with
  | true=>exact .inr (jW he)
  | false=>exact .inl rfl
theorem tmLe.trans {t u v:T V} {n:Nat} (h:tmLe t u n) (k:tmLe u v n):tmLe t v n:=⟨fun i hi=>by
 rcases h.1 i hi with e | e
 ·exact .inl e
 ·rcases k.1 i hi with e' | e'
  ·exact .inl (e.trans e')
  ·exact .inr (e.trans e'),h.2⟩
theorem tmLe.ar {c:MC} {R:Ren} {s s':St} {A:Act} (h:tmLe s.tm s'.tm c.n) (ha:AR R (c.act s') A):AR R (c.act s) A :=
 ⟨⟨ha.tm.size,h.2,fun i=>by
  show VR R (getD' s.tm i) _
  by_cases hi:i<c.n
  ·rcases h.1 i hi with e | e
   ·rw [e];exact .bad _
   ·rw [e];exact ha.tm.val i
  ·have:getD' s.tm i = .bad:=by unfold getD';rw [h.2 i (by omega)]
   rw [this];exact .bad _⟩,ha.df⟩
def xIn (c:MC) (k:Option Nat) (sx:St) (r:Option Res):Prop:=∃ s',xOf c r=some (k,s')∧s'.dl=sx.dl∧tmLe sx.tm s'.tm c.n
theorem xIn.weak {c:MC} {k:Option Nat} {s0 s1:St} {r:Option Res} (h:xIn c k s0 r) (hd:s0.dl=s1.dl) (ht:tmLe s1.tm s0.tm c.n):xIn c k s1 r :=
 let ⟨s',h1,h2,h3⟩:=h
 ⟨s',h1,h2.trans hd,ht.trans h3⟩
theorem TQ {k k0:Option Nat} (h:Am Nat.beq k k0=true):k=k0:=by
 cases k<;>cases k0<;>first | rfl | (cases h;done) | (rw [nb h])
theorem U4 {c:MC} {k:Option Nat} {s:St} {r:Option Res} (h:xOf c r=some (k,s)):(∃ a H,r=some (.ret a H)∧k=none∧lD (c.wb a.tm) a H=some s)∨(∃ id a H,r=some (.exit id a H)∧k=some id∧lD (c.wb a.tm) a H=some s):=by
 unfold xOf Qm at h
 split at h
 ·rename_i a H
  split at h
  ·rename_i s' e;cases h;exact .inl ⟨a,H,rfl,rfl,e⟩
  ·cases h
 ·rename_i id a H
  split at h
  ·rename_i s' e;cases h;exact .inr ⟨id,a,H,rfl,rfl,e⟩
  ·cases h
 ·cases h
theorem Lr {c:MC} {b:T V} {a:EA} {H:EH} {s:St} (h:lD (c.wb b) a H=some s):tmLe s.tm s.tm c.n:=by
 obtain ⟨_,_,_,_,_,_,m5,_⟩:=eQ h
 refine ⟨fun i _ => .inr rfl,fun i hi=>?_⟩
 rw [m5,kL,if_neg (by have:c.n≤i:=hi;show ¬ i<c.n;omega)]
theorem EK {f:Task→Option Res} {ro:Option Nat} {ml:ML} {c:MC} {s:St}:∀ {l:List (V×V×Nat)} {acc:XA},xGo P f ro ml c s l=some acc →
 (∀ e,e∈l→(∃ a H,dY P f ro ml (c.act s) (c.heap s) e.1 e.2.1=some (.normal a H)∧lD c a H=some s)∨∃ k sx,acc=some (k,sx)∧xIn c k sx (dY P f ro ml (c.act s) (c.heap s) e.1 e.2.1)) ∧
 (∀ k sx,acc=some (k,sx)→∃ e,e∈l∧xIn c k sx (dY P f ro ml (c.act s) (c.heap s) e.1 e.2.1))
 | [],acc,h=>by cases h;exact ⟨(fun e he=>by cases he),(fun k sx e=>by cases e)⟩
 | e::l,acc,h=>by
  have h:(match xGo P f ro ml c s l with | some acc=>JS c s (dY P f ro ml (c.act s) (c.heap s) e.1 e.2.1) acc | none=>none)=some acc:=h
  cases h0:xGo P f ro ml c s l with
  | none=>rw [h0] at h;cases h
  | some acc0 =>
   rw [h0] at h
   have h:JS c s (dY P f ro ml (c.act s) (c.heap s) e.1 e.2.1) acc0=some acc:=h
   obtain ⟨i1,i2⟩:=EK h0
   generalize hr:dY P f ro ml (c.act s) (c.heap s) e.1 e.2.1=r at h
   have hx:∀ (hq:Jf c.n (xOf c r) acc0=some acc),(∀ e',e'∈e::l→(∃ a H,dY P f ro ml (c.act s) (c.heap s) e'.1 e'.2.1=some (.normal a H)∧lD c a H=some s)∨∃ k sx,acc=some (k,sx)∧xIn c k sx (dY P f ro ml (c.act s) (c.heap s) e'.1 e'.2.1)) ∧
    (∀ k sx,acc=some (k,sx)→∃ e',e'∈e::l∧xIn c k sx (dY P f ro ml (c.act s) (c.heap s) e'.1 e'.2.1)):=fun hq=>by
    unfold Jf at hq
    split at hq
    ·rename_i k s' hxo
     have hle:tmLe s'.tm s'.tm c.n:=by
      rcases U4 hxo with ⟨a,H,_,_,hm⟩ | ⟨id,a,H,_,_,hm⟩
      ·exact Lr hm
      ·exact Lr hm
     cases acc0 with
     | none =>
      have hq:some (some (k,s'))=some acc:=hq
      cases hq
      refine ⟨fun e' he'=>?_,fun k1 sx e1=>?_⟩
      ·rcases List.mem_cons.1 he' with rfl | he'
       ·exact .inr ⟨k,s',rfl,s',by rw [hr];exact hxo,rfl,hle⟩
       ·rcases i1 e' he' with q | ⟨k1,sx,q,_⟩
        ·exact .inl q
        ·cases q
      ·cases e1
       exact ⟨e,by simp,s',by rw [hr];exact hxo,rfl,hle⟩
     | some ks =>
      obtain ⟨k0,s0⟩:=ks
      have hq:cond (Am Nat.beq k k0) (cond (Il s'.dl s0.dl) (some (some (k0,(⟨sO s0.tm s'.tm c.n,s0.dl⟩:St)))) none) none=some acc:=hq
      cases ha:Am Nat.beq k k0 with
      | false=>rw [ha] at hq;cases hq
      | true =>
       rw [ha] at hq
       cases hb:Il s'.dl s0.dl with
       | false=>rw [hb] at hq;cases hq
       | true =>
        rw [hb] at hq
        cases hq
        have ek:=TQ ha
        subst ek
        have ed:=Dy hb
        obtain ⟨j1,j2⟩:=Q9 s0.tm s'.tm c.n
        refine ⟨fun e' he'=>?_,fun k1 sx e1=>?_⟩
        ·rcases List.mem_cons.1 he' with rfl | he'
         ·exact .inr ⟨k,_,rfl,s',by rw [hr];exact hxo,ed,j2⟩
         ·rcases i1 e' he' with q | ⟨k1,sx,q,hin⟩
          ·exact .inl q
          ·cases q
           exact .inr ⟨k,_,rfl,hin.weak rfl j1⟩
        ·cases e1
         exact ⟨e,by simp,s',by rw [hr];exact hxo,ed,j2⟩
    ·cases hq
   unfold JS at h
   split at h
   ·rename_i a H
    split at h
    ·rename_i s' hm
     cases he:Me s' s with
     | false=>rw [he] at h;cases h
     | true =>
      rw [he] at h
      cases h
      have es:=Kv he
      subst es
      refine ⟨fun e' he'=>?_,fun k1 sx e1=>?_⟩
      ·rcases List.mem_cons.1 he' with rfl | he'
       ·exact .inl ⟨a,H,hr,hm⟩
       ·exact i1 e' he'
      ·obtain ⟨e',q1,q2⟩:=i2 k1 sx e1
       exact ⟨e',by simp [q1],q2⟩
    ·cases h
   ·exact hx h
theorem AX {H:T EO} (t:T EO):∀ {rl:List (Nat×EO)},(∀ b o,(b,o)∈rl→H.get b=some o)→∀ b,(∀ o,(b,o)∈rl→(A8 rl t).get b=some o)∧((∀ o,(b,o)∉rl)→(A8 rl t).get b=t.get b)
 | [],_,b=>⟨(fun o h=>by cases h),fun _=>rfl⟩
 | (b0,o0)::rl,hH,b=>by
  obtain ⟨i1,i2⟩:=AX t (rl:=rl) (fun b o h=>hH b o (List.mem_cons.2 (.inr h))) b
  have e:(A8 ((b0,o0)::rl) t).get b=((A8 rl t).set b0 o0).get b:=rfl
  rw [e,T.get_set]
  by_cases q:b=b0
  ·subst q
   rw [if_pos rfl]
   refine ⟨fun o h=>?_,fun h=>absurd (List.mem_cons.2 (.inl rfl)) (h o0)⟩
   have h1:=hH b o h
   have h2:=hH b o0 (List.mem_cons.2 (.inl rfl))
   rw [h1] at h2;exact h2.symm
  ·rw [if_neg q]
   refine ⟨fun o h=>?_,fun h=>i2 fun o h'=>h o (List.mem_cons.2 (.inr h'))⟩
   rcases List.mem_cons.1 h with e | h
   ·cases e;exact absurd rfl q
   ·exact i1 o h
theorem jX (t:T EO):∀ (rl:List (Nat×EO)) (b:Nat),((xX rl t).get b=none∧∃ o,(b,o)∈rl)∨((xX rl t).get b=t.get b∧∀ o,(b,o)∉rl)
 | [],b => .inr ⟨rfl,fun o h=>by cases h⟩
 | (b0,o0)::rl,b=>by
  have e:(xX ((b0,o0)::rl) t).get b=((xX rl t).del b0).get b:=rfl
  rw [e,T.get_del]
  by_cases q:b=b0
  ·subst q;exact .inl ⟨if_pos rfl,o0,by simp⟩
  ·rw [if_neg q]
   rcases jX t rl b with ⟨h1,o,h2⟩ | ⟨h1,h2⟩
   ·exact .inl ⟨h1,o,List.mem_cons.2 (.inr h2)⟩
   ·refine .inr ⟨h1,fun o h=>?_⟩
    rcases List.mem_cons.1 h with e | h
    ·cases e;exact q rfl
    ·exact h2 o h
theorem qB (objs:T EO):∀ (k b b':Nat) (o:EO),(b',o)∈nU objs k b→objs.get b'=some o∧bn o=2
 | 0,b,b',o,h=>by cases h
 | k+1,b,b',o,h=>by
  have h:(b',o)∈(match objs.get b with
   | some (.loop st pd tm n ps as bd df)=>fN b fun b=>(b,EO.loop st pd tm n ps as bd df)::nU objs k (b+1)
   | _=>nU objs k (b+1)):=h
  split at h
  ·rename_i st pd tm n ps as bd df hb
   rw [dA] at h
   rcases List.mem_cons.1 h with e | h
   ·cases e;exact ⟨hb,rfl⟩
   ·exact qB objs k _ b' o h
  ·exact qB objs k _ b' o h
theorem BQ {β : Type} {fin : UG β} (hf0 : ∀ c l i, fin c l i none = none) {f : Task → Option Res} {ro : Option Nat} {body : Code} {ml : ML} (hml : kW body = some ml) {a : EA} {H : EH} {r : β} (h : I8 fin P f ro ml a H = some r) :
    ∃ (c : MC) (s0 : St) (itn i1 i2 : Nat) (o1 o3 : Oper), MLOk ml body i1 i2 o1 o3 ∧ fin c H.low itn (some s0) = some r ∧ H.next ≤ c.nx ∧
      ∀ R w A rr, Rel R All H w → WF H → (∀ b, H.next ≤ b → b < c.nx → R.bm b = none ∧ ∀ r, R.cz b r = none) → AR R a A → Ro R ro rr →
        ∃ rit rm es' z, LC P f ro rr ml c R rit rm ∧ LZ c R rm w es' z ∧ IM c R w rit rm #[] s0 A w ∧ ∀ s seen A' w', IM c R w rit rm seen s A' w' → SimA R R H (c.out s H.low itn) w w' := by
  obtain ⟨i1, i2, o1, o3, hb⟩ := DF hml
  unfold I8 at h
  cases ht : Tq a.n ml with
  | false => rw [ht] at h; cases h
  | true =>
  rw [ht] at h
  simp only [cond_true] at h
  have ht := Qu ht
  split at h
  · rename_i itn hit
    split at h
    · rename_i m c0 hio
      split at h
      · rename_i es clk hmo
        cases k1 : Nat.beq c0 clk with
        | false => rw [k1] at h; cases h
        | true =>
        rw [k1] at h
        simp only [cond_true] at h
        have := nb k1
        subst this
        rw [aH] at h
        by_cases hmi : m = itn
        · rw [if_pos hmi] at h; cases h
        rw [if_neg hmi] at h
        cases k3 : ltL H.next a.df with
        | false => rw [k3] at h; cases h
        | true =>
        rw [k3] at h
        simp only [cond_true] at h
        have hdf := KA k3
        cases k4 : X3 H.next ro with
        | false => rw [k4] at h; cases h
        | true =>
        rw [k4] at h
        simp only [cond_true] at h
        unfold OW at h
        split at h
        rename_i lo nx0 hlow
        clear hlow
        rw [dA] at h
        generalize hbase : G7 ml.tl (((a.tm.set ml.t1 .bad).set ml.t2 .bad).set ml.t3 .bad) = base at h
        -- with the map in its place, or without it
        have hcore : ∀ (objs : T EO) (lo dd : Nat) (rl : List (Nat × EO)), (∀ b o, objs.get b = some o → b ≠ itn ∧ H.objs.get b = some o) → (m, EO.map es c0) ∈ rl → (∀ b o, (b, o) ∈ rl → H.objs.get b = some o ∧ bn o ≠ 0 ∧ b ≠ itn ∧ (objs.get b = none ∨ b < lo)) → (∀ b o, b ≠ itn → H.objs.get b = some o → objs.get b = some o ∨ (b, o) ∈ rl) → DI fin ml a H itn m c0 es base objs lo dd rl = some r → ∃ (c : MC) (s0 : St) (itn i1 i2 : Nat) (o1 o3 : Oper), MLOk ml body i1 i2 o1 o3 ∧ fin c H.low itn (some s0) = some r ∧ H.next ≤ c.nx ∧ ∀ R w A rr, Rel R All H w → WF H → (∀ b, H.next ≤ b → b < c.nx → R.bm b = none ∧ ∀ r, R.cz b r = none) → AR R a A → Ro R ro rr → ∃ rit rm es' z, LC P f ro rr ml c R rit rm ∧ LZ c R rm w es' z ∧ IM c R w rit rm #[] s0 A w ∧ ∀ s seen A' w', IM c R w rit rm seen s A' w' → SimA R R H (c.out s H.low itn) w w' := by
          clear h
          intro objs lo dd rl hobj hmrl hrl hobj' h
          unfold DI at h
          generalize hc : (⟨objs, H.next, H.grps, a.n, a.df, base, m, c0, es, ml.it, itn, Nat.add H.next dd, lo, rl⟩ : MC) = c at h
          cases hs0 : lD c ⟨base, a.n, a.df⟩ ⟨objs, H.next, H.grps, big⟩ with
          | none => rw [hs0, hf0] at h; cases h
          | some s0 =>
            rw [hs0] at h
            have hcn : c.next = H.next := by rw [← hc]
            have hcx : c.nx = H.next + dd := by rw [← hc]; rfl
            have hcl : c.lo = lo := by rw [← hc]
            have hco : c.objs = objs := by rw [← hc]
            have hcg : c.grps = H.grps := by rw [← hc]
            have hce : c.es = es := by rw [← hc]
            have hcm : c.m = m := by rw [← hc]
            have hck : c.clk = c0 := by rw [← hc]
            have hci : c.it = ml.it := by rw [← hc]
            have hcit : c.itn = itn := by rw [← hc]
            have hcna : c.n = a.n := by rw [← hc]
            have hcd : c.df = a.df := by rw [← hc]
            have hcb : c.base = base := by rw [← hc]
            have hcr : c.rl = rl := by rw [← hc]
            have hkr : ∀ b o, bn o ≠ 0 → aG b o = b := fun b o h => by cases o <;> first | rfl | exact absurd rfl h
            rw [← hco] at hobj hrl hobj'
            rw [← hcl] at hrl
            -- what holds at the loop's head, and behind it
            have start : ∀ R w A rr, Rel R All H w → WF H → (∀ b, H.next ≤ b → b < c.nx → R.bm b = none ∧ ∀ r, R.cz b r = none) → AR R a A → Ro R ro rr →
                ∃ rit rm es' z, LC P f ro rr ml c R rit rm ∧ LZ c R rm w es' z ∧ IM c R w rit rm #[] s0 A w ∧ ∀ s seen A' w', IM c R w rit rm seen s A' w' → SimA R R H (c.out s H.low itn) w w' := by
              intro R w A rr hr hw hf ha hro
              have hlt := hw.lt
              have hvit : VR R (a.get ml.it) (A.eval (.tmp ml.it)) := ha.eval (.tmp ml.it)
              rw [hit] at hvit
              obtain ⟨rit, hrit⟩ : ∃ rit, R.bm itn = some (rit, 0) := by
                generalize A.eval (.tmp ml.it) = x at hvit
                cases hvit with
                | ptr hm ho => rename_i r d o; have hd : d = 0 := by omega
                               subst hd; exact ⟨_, hm⟩
              obtain ⟨_, ia, isn, ise, ila, ih1, ih2⟩ := hr.obj itn _ rit 0 hio hrit
              obtain ⟨rfl, rfl, rfl, rm, rfl, hrm⟩ := ih2 trivial
              obtain ⟨_, es', clk', hmw, hm2⟩ := hr.obj m _ rm 0 hmo hrm
              obtain ⟨rfl, hm3⟩ := hm2 trivial
              obtain ⟨⟨z, hz1, hz2, hz3⟩, hz4, hz5⟩ := hm3
              have hitl := hlt itn _ hio
              have hml' := hlt m _ hmo
              have hnoit : ∀ b o d, c.objs.get b = some o → R.bm b = some (rit, d) → False := fun b o d ho hb' => by
                obtain ⟨q1, q2⟩ := hobj b o ho
                rcases hr.inj b itn o _ rit d 0 q2 hio hb' hrit with e | ⟨_, _, e, _⟩
                · exact q1 e
                · cases e
              have hmk : ∀ b o d, c.objs.get b = some o → R.bm b = some (rm, d) → aG b o < c.lo := fun b o d ho hb' => by
                obtain ⟨q1, q2⟩ := hobj b o ho
                rcases hr.inj b m o _ rm d 0 q2 hmo hb' hrm with e | ⟨_, _, e, _⟩
                · subst e
                  rcases (hrl _ _ hmrl).2.2.2 with q | q
                  · rw [ho] at q; cases q
                  · have := hw.root _ _ q2
                    omega
                · cases e
              have hne : rm ≠ rit := fun q => by
                subst q
                rcases hr.inj m itn _ _ rm 0 0 hmo hio hrm hrit with e | ⟨_, e, _, _⟩
                · exact hmi e
                · cases e
              have hwf : MCOk c := ⟨⟨fun b o e => by show b < c.next; rw [hcn]; exact hlt b o (hobj b o e).2, fun b o e => hw.root b o (hobj b o e).2,
                fun g hg b b' o o' h1 h2 e1 e2 => hw.uniq g (by rw [← hcg]; exact hg) b b' o o' (hobj b o h1).2 (hobj b' o' h2).2 e1 e2, fun g x e => by show g < c.next; rw [hcn]; exact hw.gdom g x (by rw [← hcg]; exact e)⟩⟩
              have hh0 : ∀ b, c.lo ≤ b ∧ b < c.next → (c.heap s0).objs.get b = (c.objs.get b).map iQ := fun b q => by
                have := uj hs0 q.1 q.2 (by rw [← hc]; exact fun e => e)
                rw [this, ← hc]
              have hh1 : ∀ b, ¬ (c.lo ≤ b ∧ b < c.next) → (c.heap s0).objs.get b = c.objs.get b := fun b q => ny hs0 q
              have hh2 : ∀ b o, (c.heap s0).objs.get b = some o → ∃ o1, c.objs.get b = some o1 ∧ (o = o1 ∨ o = iQ o1) := fun b o e => by
                by_cases q : c.lo ≤ b ∧ b < c.next
                · rw [hh0 b q] at e
                  obtain ⟨o1, e1, e2⟩ := Option.map_eq_some_iff.1 e
                  exact ⟨o1, e1, .inr e2.symm⟩
                · rw [hh1 b q] at e
                  exact ⟨o, e, .inl rfl⟩
              have hrt : ∀ {b : Nat} {o o1 : EO}, (o = o1 ∨ o = iQ o1) → aG b o = aG b o1 ∧ bn o = bn o1 := fun q => by
                rcases q with rfl | rfl
                · exact ⟨rfl, rfl⟩
                · exact ⟨y8 _ _, xh _⟩
              have hk0 : HK c s0 := ⟨fun b => by
                  by_cases q : c.lo ≤ b ∧ b < c.next
                  · rw [hh0 b q]; simp
                  · rw [hh1 b q], fun b o0 o e0 e => by
                  obtain ⟨o1, e1, q⟩ := hh2 b o e
                  rw [e0] at e1; cases e1
                  exact hrt q, fun b o0 e0 hr0 => by
                  by_cases q : c.lo ≤ b ∧ b < c.next
                  · rw [hh0 b q, e0]
                    show some (iQ o0) = some o0
                    rw [yX (b := b) (by omega)]
                  · rw [hh1 b q]; exact e0⟩
              have hvd : ∀ b o o1, (o = o1 ∨ o = iQ o1) → (c.heap s0).vd b o = true → H.vd b o1 = true := fun b o o1 q v => by
                have v : (c.heap s0).vd b o1 = true := by
                  rcases q with rfl | rfl
                  · exact v
                  · cases o1 <;> exact v
                cases o1 with
                | cells cc l1 sz g =>
                  have v : EH.valid (c.heap s0) b sz g = true := v
                  show EH.valid H b sz g = true
                  unfold EH.valid at v ⊢
                  rw [← hcg]; exact v
                | _ => exact v
              obtain ⟨q1, q2, q3, q4, q10, q6, q7, q8, q9⟩ := eQ hs0
              have hrel0 : Rel R All (c.heap s0) w := ⟨hr.img, fun b o r d e hm => by
                  obtain ⟨o1, e1, q⟩ := hh2 b o e
                  have hor := (hr.obj b o1 r d (hobj b o1 e1).2 hm).mono (vd' := (c.heap s0).vd b o) (s' := True) (.refl _) hm rfl (fun _ => trivial) (hvd b o o1 q)
                  rcases q with rfl | rfl
                  · exact hor
                  · exact hor.norm,
                fun b b' o o' r d d' e e' hm hm' => by
                  obtain ⟨o1, e1, p1⟩ := hh2 b o e
                  obtain ⟨o2, e2, p2⟩ := hh2 b' o' e'
                  rw [(hrt (b := b) p1).2, (hrt (b := b') p2).2, (hrt (b := b) p1).1, (hrt (b := b') p2).1]
                  exact hr.inj b b' o1 o2 r d d' (hobj b o1 e1).2 (hobj b' o2 e2).2 hm hm', hr.frz⟩
              have hbv : ∀ i, getD' base i = .bad ∨ getD' base i = getD' a.tm i := fun i => by
                unfold getD'
                rw [← hbase]
                rcases xQ ml.tl (((a.tm.set ml.t1 .bad).set ml.t2 .bad).set ml.t3 .bad) i with e | e
                · rw [e]
                  simp only [T.get_set]
                  by_cases e1 : i = ml.t3
                  · rw [if_pos e1]; exact .inl rfl
                  · rw [if_neg e1]
                    by_cases e2 : i = ml.t2
                    · rw [if_pos e2]; exact .inl rfl
                    · rw [if_neg e2]
                      by_cases e3 : i = ml.t1
                      · rw [if_pos e3]; exact .inl rfl
                      · rw [if_neg e3]; exact .inr rfl
                · rw [e]; exact .inl rfl
              have hact0 : AR R (c.act s0) A := by
                refine ⟨⟨?_, fun i hi => ?_, fun i => ?_⟩, ?_⟩
                · show A.tmps.size = c.n
                  rw [hcna]; exact ha.tm.size
                · show s0.tm.get i = none
                  rw [q7, kL, if_neg (by have hi : c.n ≤ i := hi; omega)]
                · show VR R (getD' s0.tm i) _
                  have hd : getD' s0.tm i = .bad ∨ getD' s0.tm i = getD' a.tm i := by
                    have e1 : getD' s0.tm i = if i < c.n then qX c.next (getD' c.base i) (getD' base i) else .bad := by
                      unfold getD'
                      rw [q7, kL]
                      by_cases hi : i < c.n
                      · rw [if_pos hi, if_pos hi]; rfl
                      · rw [if_neg hi, if_neg hi]
                    rw [e1]
                    by_cases hi : i < c.n
                    · rw [if_pos hi]
                      unfold qX
                      split
                      · exact .inl rfl
                      · cases nH c.next (getD' base i) with
                        | false => exact .inl rfl
                        | true => exact hbv i
                    · rw [if_neg hi]; exact .inl rfl
                  rcases hd with e | e
                  · rw [e]; exact .bad _
                  · rw [e]; exact ha.tm.val i
                · show DR R c.df A.defers
                  rw [hcd]; exact ha.df
              have hl : LC P f ro rr ml c R rit rm := ⟨hwf, by rw [hcna]; exact ht, hci, by rw [hcit]; exact hrit, hmk, hne, hnoit,
                fun b h1 h2 => hf b (by omega) h2, fun b hb => by rw [hcn]; exact hdf b (by rw [← hcd]; exact hb), hro⟩
              refine ⟨rit, rm, es', z, hl, ⟨by rw [hck]; exact hmw, by rw [hce]; exact hz1, hz2, hz3, hz4, by rw [hck]; exact hz5⟩, ⟨hk0, q6, hrel0, hact0, by rw [hck]; exact ih1, rfl, rfl, rfl, Nat.le_refl _, fun _ _ _ _ => rfl⟩, fun s seen A' w' hI => ?_⟩
              -- behind the loop
              have hminN := UI H.low c.lo itn
              have hrg := AX ((Dw s.dl c.lo c.objs).set itn (.iter none)) (rl := c.rl) (H := H.objs) (fun b o h => (hrl b o (by rw [← hcr]; exact h)).1)
              have hrn : ∀ b, (∀ o, (b, o) ∉ c.rl) → (c.out s H.low itn).objs.get b = if b = itn then some (.iter none) else (c.heap s).objs.get b := fun b h => by
                show (A8 c.rl _).get b = _
                rw [(hrg b).2 h, T.get_set]; rfl
              have hry : ∀ b o, (b, o) ∈ c.rl → (c.out s H.low itn).objs.get b = some o := fun b o h => (hrg b).1 o h
              have hF : ∀ b o, (c.out s H.low itn).objs.get b = some o → ∃ oH, H.objs.get b = some oH ∧ aG b o = aG b oH ∧ bn o = bn oH := fun b o e => by
                by_cases qm : ∃ o', (b, o') ∈ c.rl
                · obtain ⟨o', qm⟩ := qm
                  rw [hry b o' qm] at e; cases e
                  exact ⟨o, (hrl b o (by rw [← hcr]; exact qm)).1, rfl, rfl⟩
                · rw [hrn b (fun o h => qm ⟨o, h⟩)] at e
                  by_cases q : b = itn
                  · rw [if_pos q] at e; cases e; subst q; exact ⟨_, hio, rfl, rfl⟩
                  · rw [if_neg q] at e
                    obtain ⟨o0, p0, p1, p2⟩ := hI.hk.some e
                    exact ⟨o0, (hobj b o0 p0).2, p1, p2⟩
              refine ⟨⟨?_, ?_, fun b o ho => ?_, fun b o ho hn => ?_, fun b o ho hb' => ?_, ⟨fun b o ho => ?_, fun b o ho => ?_, fun g hg b b' o o' h1 h2 e1 e2 => ?_, fun g x e => ?_⟩, fun g hg => hg, fun b o ho hb' => ?_⟩, ⟨fun _ _ => rfl, fun _ _ => rfl, fun b r' d h1 h2 e => ?_, fun _ _ => rfl, fun _ _ _ e => .inl e⟩,
                ⟨hI.os, hI.tape, hI.output, hI.size, fun r' hr' hn => ?_⟩, ⟨fun b r' d e => hI.rel.img b r' d e, fun b o r' d ho hb' => ?_, fun b b' o o' r' d d' h1 h2 e1 e2 => ?_, hI.rel.frz⟩⟩
              · show H.next ≤ c.nx; omega
              · exact hminN.1
              · by_cases qm : ∃ o', (b, o') ∈ c.rl
                · obtain ⟨o', qm⟩ := qm
                  have := (hrl b o' (by rw [← hcr]; exact qm)).1
                  rw [ho] at this; cases this
                  exact ⟨o, hry b o qm, rfl, rfl⟩
                · rw [hrn b (fun o h => qm ⟨o, h⟩)]
                  by_cases q : b = itn
                  · subst q; rw [hio] at ho; cases ho; exact ⟨_, if_pos rfl, rfl, rfl⟩
                  · rw [if_neg q]
                    have h0 := (hobj' b o q ho).resolve_right fun h => qm ⟨o, by rw [hcr]; exact h⟩
                    cases h1 : (c.heap s).objs.get b with
                    | none => rw [(hI.hk.dom b).1 h1] at h0; cases h0
                    | some o' => exact ⟨o', rfl, hI.hk.root b o o' h0 h1⟩
              · have hn : ¬ bW H.low (bW c.lo itn) ≤ aG b o := hn
                show (c.out s H.low itn).objs.get b = some o ∧ c.grps.get _ = _
                by_cases qm : ∃ o', (b, o') ∈ c.rl
                · obtain ⟨o', qm⟩ := qm
                  have := (hrl b o' (by rw [← hcr]; exact qm)).1
                  rw [ho] at this; cases this
                  exact ⟨hry b o qm, by rw [hcg]⟩
                · rw [hrn b (fun o h => qm ⟨o, h⟩)]
                  by_cases q : b = itn
                  · subst q; rw [hio] at ho; cases ho
                    exact absurd hminN.2.2 hn
                  · rw [if_neg q]
                    have h0 := (hobj' b o q ho).resolve_right fun h => qm ⟨o, by rw [hcr]; exact h⟩
                    exact ⟨hI.hk.keep b o h0 (by omega), by rw [hcg]⟩
              · obtain ⟨oH, p, _⟩ := hF b o ho; exact ⟨oH, p⟩
              · obtain ⟨oH, p, _⟩ := hF b o ho; have := hlt b oH p; show b < c.nx; omega
              · obtain ⟨oH, p, p1, _⟩ := hF b o ho; rw [p1]; exact hw.root b oH p
              · obtain ⟨x, p, p1, _⟩ := hF b o h1
                obtain ⟨y, q, q1', _⟩ := hF b' o' h2
                exact hw.uniq g (by rw [← hcg]; exact hg) b b' x y p q (p1.symm.trans e1) (q1'.symm.trans e2)
              · have := hw.gdom g x (by rw [← hcg]; exact e); show g < c.nx; omega
              · obtain ⟨oH, p, _⟩ := hF b o ho; have := hlt b oH p; omega
              · have := (hf b h1 h2).1; rw [this] at e; cases e
              · have hn : ∀ b o d, H.objs.get b = some o → R.bm b = some (r', d) → ¬ bW H.low (bW c.lo itn) ≤ aG b o := hn
                by_cases q : r' = rit
                · subst q; exact absurd hminN.2.2 (hn itn _ 0 hio hrit)
                · exact hI.keep r' hr' q fun b o d ho hb' => by
                    have := hn b o d (hobj b o ho).2 hb'
                    omega
              · have ho : (c.out s H.low itn).objs.get b = some o := ho
                by_cases qm : ∃ o', (b, o') ∈ c.rl
                · obtain ⟨o', qm⟩ := qm
                  rw [hry b o' qm] at ho; cases ho
                  obtain ⟨g1, g2, g3, g4⟩ := hrl b o (by rw [← hcr]; exact qm)
                  have hne' : r' ≠ rit := fun q => by
                    subst q
                    rcases hr.inj b itn o _ r' d 0 g1 hio hb' hrit with e | ⟨_, _, e, _⟩
                    · exact g3 e
                    · cases e
                  have hkm : w'.heap[r']? = w.heap[r']? := hI.keep r' (hr.img _ _ _ hb') hne' fun b2 o2 d2 h2 e2 => by
                    rcases hr.inj b b2 o o2 r' d d2 g1 (hobj b2 o2 h2).2 hb' e2 with e | ⟨_, e, _, _⟩
                    · subst e
                      have e3 := (hobj b o2 h2).2
                      rw [g1] at e3; cases e3
                      rcases g4 with q | q
                      · rw [h2] at q; cases q
                      · rw [hkr b o g2]; exact q
                    · exact absurd e g2
                  exact (hr.obj b o r' d g1 hb').mono (.refl _) hb' hkm (fun _ => trivial) (fun v => by cases o <;> first | exact v | exact absurd rfl g2)
                · rw [hrn b (fun o h => qm ⟨o, h⟩)] at ho
                  by_cases q : b = itn
                  · rw [if_pos q] at ho; cases ho; subst q
                    rw [hrit] at hb'; cases hb'
                    exact ⟨rfl, _, _, _, _, hI.it, fun _ => trivial⟩
                  · rw [if_neg q] at ho
                    exact (hI.rel.obj b o r' d ho hb').mono (.refl _) hb' rfl (fun _ => trivial) (fun v => by cases o <;> exact v)
              · obtain ⟨x, p, p1, p2⟩ := hF b o h1
                obtain ⟨y, q, q1', q2'⟩ := hF b' o' h2
                rcases hr.inj b b' x y r' d d' p q e1 e2 with u | ⟨u1, u2, u3, u4⟩
                · exact .inl u
                · exact .inr ⟨u1, by rw [p2]; exact u2, by rw [q2']; exact u3, by rw [p1, q1']; exact u4⟩
            exact ⟨c, s0, itn, i1, i2, o1, o3, hb, h, by omega, start⟩
        rw [dB] at h
        have hdel : ∀ b, (H.objs.del itn).get b = if b = itn then none else H.objs.get b := fun b => T.get_del _ _ _
        have hin : ∀ b o, (H.objs.del itn).get b = some o → b ≠ itn ∧ H.objs.get b = some o := fun b o e => by
          rw [hdel] at e
          by_cases q : b = itn
          · rw [if_pos q] at e; cases e
          · rw [if_neg q] at e; exact ⟨q, e⟩
        generalize hll : nU (H.objs.del itn) (Nat.sub H.next lo) lo = ll at h
        have hl2 : ∀ b o, (b, o) ∈ ll → (H.objs.del itn).get b = some o ∧ bn o = 2 := fun b o e => qB _ _ _ b o (by rw [hll]; exact e)
        have hm1 : (H.objs.del itn).get m = some (.map es c0) := by rw [hdel, if_neg hmi]; exact hmo
        have hmem : ∀ b o, (b, o) ∈ (m, EO.map es c0) :: ll → (H.objs.del itn).get b = some o ∧ bn o ≠ 0 := fun b o e => by
          rcases List.mem_cons.1 e with e | e
          · cases e; exact ⟨hm1, by simp [bn]⟩
          · obtain ⟨p, q⟩ := hl2 b o e; exact ⟨p, by omega⟩
        have hget : ∀ (l : List (Nat × EO)) b o, (xX l (H.objs.del itn)).get b = some o → b ≠ itn ∧ H.objs.get b = some o := fun l b o e => by
          rcases jX (H.objs.del itn) l b with ⟨q, _⟩ | ⟨q, _⟩
          · rw [q] at e; cases e
          · rw [q] at e; exact hin b o e
        by_cases hlo : m < lo
        · rw [if_pos hlo] at h
          refine hcore _ lo _ _ (hget ll) (by simp) (fun b o e => ?_) (fun b o q e => ?_) h
          · obtain ⟨p1, p2⟩ := hmem b o e
            refine ⟨(hin b o p1).2, p2, (hin b o p1).1, ?_⟩
            rcases List.mem_cons.1 e with e | e
            · cases e; exact .inr hlo
            · rcases jX (H.objs.del itn) ll b with ⟨q, _⟩ | ⟨_, q⟩
              · exact .inl q
              · exact absurd e (q o)
          · have e1 : (H.objs.del itn).get b = some o := by rw [hdel, if_neg q]; exact e
            rcases jX (H.objs.del itn) ll b with ⟨_, o', q2⟩ | ⟨q2, _⟩
            · have := (hl2 b o' q2).1
              rw [e1] at this; cases this
              exact .inr (List.mem_cons.2 (.inr q2))
            · exact .inl (q2.trans e1)
        · rw [if_neg hlo] at h
          refine hcore _ lo _ _ (hget ((m, EO.map es c0) :: ll)) (by simp) (fun b o e => ?_) (fun b o q e => ?_) h
          · obtain ⟨p1, p2⟩ := hmem b o e
            refine ⟨(hin b o p1).2, p2, (hin b o p1).1, ?_⟩
            rcases jX (H.objs.del itn) ((m, EO.map es c0) :: ll) b with ⟨q, _⟩ | ⟨_, q⟩
            · exact .inl q
            · exact absurd e (q o)
          · have e1 : (H.objs.del itn).get b = some o := by rw [hdel, if_neg q]; exact e
            rcases jX (H.objs.del itn) ((m, EO.map es c0) :: ll) b with ⟨_, o', q2⟩ | ⟨q2, _⟩
            · have := (hmem b o' q2).1
              rw [e1] at this; cases this
              exact .inr q2
            · exact .inl (q2.trans e1)
      · cases h
    · cases h
  · cases h
theorem zF {f:Task→Option Res} (hs:dQ P f) {ro:Option Nat} {body:Code} {ml:ML} (hml:kW body=some ml) {a:EA} {H:EH} {r:Res} (h:mr P f ro ml a H=some r) :
 Spec P (.code ro (.loop body) a H) r:=by
 obtain ⟨c,s0,itn,i1,i2,o1,o3,hb,h,hnx,start⟩:=BQ (fun _ _ _=>rfl) hml h
 have h:xB ml c H.low itn (bfs (stepM P f ro ml c) c.es 200 0 [s0]) (Hz P f ro ml c H.low itn s0)=some r:=h
 have hlenE:∀ l:List (V×V×Nat),FQ l=l.length:=fun l=>by
  induction l with
  | nil=>rfl
  | cons x l ih=>show Nat.succ (FQ l)=_;rw [ih];rfl
 unfold xB at h
 split at h
 ·rename_i st tab hbfs
  cases k5:zk tab (eY st) (FQ c.es) with
  | false=>rw [k5] at h;cases h
  | true =>
  rw [k5] at h
  simp only [cond_true] at h
  unfold Xh at h
  split at h
  ·rename_i sF hsF
   cases h
   rw [iP,hlenE] at k5
   rw [hlenE,fB,OC] at hsF
   obtain ⟨b1,b2,b3⟩:=QR hbfs (Nat.zero_le _)
   have hst0:st[0]?=some s0:=uo b1 (by simp)
   refine ⟨(fun v H' e=>by cases e),hnx,c.es.length+1,fun R w A n rr hr hw hf ha hro=>?_⟩
   obtain ⟨rit,rm,es',z,hl,hz,hI0,hfin⟩:=start R w A rr hr hw hf ha hro
   refine Dt hs hl hb hz (fin:=(List.range c.es.length).foldl (jR tab) 0) (st:=st) (tab:=tab) (by omega) (fun i row e=>by have:=b3 i row e;rwa [Nat.zero_add] at this) k5 (fun s seen A' w' A2 hs' hI ha2=>?_)
    c.es.length (List.range c.es.length) 0 s0 #[] A w (by simp) (List.nodup_range) (fun x hx=>List.mem_range.1 hx) hst0 rfl (fun j p he=>by
     have:=(List.getElem?_eq_some_iff.1 he).1
     rw [hz.len] at this
     simp [this]) hI0
   rw [hsF] at hs'
   cases hs'
   exact ⟨R,hfin _ _ _ _ hI,⟨rfl,ha2⟩⟩
  ·cases h
 ·unfold Hz at h
  cases hxg:xGo P f ro ml c s0 c.es with
  | none=>rw [hxg] at h;cases h
  | some acc =>
   rw [hxg] at h
   obtain ⟨x1,x2⟩:=EK hxg
   cases acc with
   | none=>cases h
   | some ks =>
    obtain ⟨k,sx⟩:=ks
    have hr:r=(match k with | none=>Res.ret (c.act sx) (c.out sx H.low itn) | some id=>Res.exit id (c.act sx) (c.out sx H.low itn)):=by
     cases k with
     | none=>cases h;rfl
     | some id=>cases h;rfl
    have hrH:r.H=c.out sx H.low itn:=by rw [hr];cases k<;>rfl
    obtain ⟨e0,he0,hx0⟩:=x2 k sx rfl
    refine ⟨(fun v H' e=>by rw [hr] at e;cases k<;>cases e),by rw [hrH];exact hnx,c.es.length+1,fun R w A n rr hrel hw hf ha hro=>?_⟩
    rw [hrH] at hf
    obtain ⟨rit,rm,es',z,hl,hz,hI0,hfin⟩:=start R w A rr hrel hw hf ha hro
    obtain ⟨j0,hj0e⟩:=List.getElem?_of_mem he0
    have hj0l:j0<z.length:=by rw [hz.len];exact (List.getElem?_eq_some_iff.1 hj0e).1
    have hj0:z[j0]?=some z[j0]:=List.getElem?_eq_some_iff.2 ⟨hj0l,rfl⟩
    have e0z:e0=z[j0].1:=by
     have:=hz.es hj0
     rw [hj0e] at this;exact Option.some.inj this
    have post:∀ s' seen A' w' (ex:Exit),s'.dl=sx.dl→tmLe sx.tm s'.tm c.n→IM c R w rit rm seen s' A' w'→(∀ {B:Act},AR R (c.act sx) B→ExitR R r ex B)→PostC R H r w ex A' w':=fun s' seen A' w' ex hd ht hI hex=>by
     refine ⟨R,?_,hex (ht.ar hI.act)⟩
     rw [hrH]
     have e:c.out sx H.low itn=c.out s' H.low itn:=by unfold MC.out;rw [hd]
     rw [e];exact hfin _ _ _ _ hI
    refine zu hs hl hb hz (j0:=j0) (p0:=z[j0]) (s:=s0) hj0 (fun a' H' q=>?_) (fun j p hj=>?_) c.es.length (List.range c.es.length) #[] A w (by simp) List.nodup_range (List.mem_range.2 (by rw [← hz.len];exact hj0l)) (fun j p he=>by
     have:=(List.getElem?_eq_some_iff.1 he).1
     rw [hz.len] at this
     simp [this]) hI0
    ·obtain ⟨s',g1,_⟩:=hx0
     rw [e0z,q] at g1
     cases g1
    ·have hpe:p.1∈c.es:=List.mem_of_getElem? (hz.es hj)
     rcases x1 p.1 hpe with q | ⟨k1,sx1,q,s',g1,g2,g3⟩
     ·exact .inl q
     ·cases q
      rcases U4 g1 with ⟨a',H',hra,hk,hm⟩ | ⟨id,a',H',hra,hk,hm⟩
      ·subst hk
       exact .inr (.inl ⟨a',H',s',hra,hm,fun seen A' w' hI=>post s' seen A' w' .ret g2 g3 hI fun hB=>by rw [hr];exact hB⟩)
      ·subst hk
       exact .inr (.inr ⟨id,a',H',s',hra,hm,fun seen A' w' hI=>post s' seen A' w' (.exit id) g2 g3 hI fun hB=>by rw [hr];exact ⟨rfl,hB⟩⟩)
end Go.Ev
/- Ranges over functions; code; the evaluator is sound. The regions whose order is open are XEvDraw's. -/
namespace Go.Ev
open Go
variable {P:Program}
theorem run_enterLoop_inner {w:World} {lr:Nat} {L:Loop} (h:w.heap[lr]?=some (.loop L)) (fn:FuncId) (tmps:Array Value) (ps:Array Tmp) (as bd:Code) :
 (Instr.enterLoop fn tmps ps as bd (some lr)).run P w = .ok (w.heap.size,[]) (w.alloc (.loop { state := .ready,pending:=none,fn,tmps,params:=ps,assign:=as,body:=bd,defers:=L.defers })):=by
 unfold Instr.enterLoop
 simp only [Sem.run_bind,run_getLoop h,run_newObj_alloc,Result.andThen,Sem.run_pure]
theorem rG {f:Task→Option Res} (hs:dQ P f) {ro:Option Nat} {g:Operand} {ps:Array Tmp} {as bd:Code} {a a1:EA} {d:Nat} {H:EH} {r:Res} (h:lX f ro (a.eval g) ps as bd a a1 d H=some r) :
 (∀ v H',r ≠ .v v H')∧H.next≤r.H.next∧∀ R w A A1 n rr rd fn,Rel R All H w→WF H→Free R H r.H→AR R a A→AR R a1 A1→Ro R ro rr→R.bm d=some (rd,0)→∀ Q:Exit→Act→World→Prop,(∀ e A w',PostC R H r w e A w'→Q e A w') →
  ∃ (dd:Deferred) (w1':World) (ff:FuncId) (args:Array Value) (w2:World),
   (resolve A.eval (rangeCall g w.heap.size) 0).run P (w.alloc (.loop { state := .ready,pending:=none,fn,tmps:=A.tmps,params:=ps,assign:=as,body:=bd,defers:=rd })) = .ok dd w1' ∧
   (invoke dd.target dd.args).run P w1' = .ok (.enter ff args) w2∧CallsIn (FF rr) (n-1) P ff args w2 (rangePost (FF rr) n P w.heap.size Q A1):=by
 unfold lX at h
 rw [dA] at h
 generalize hH1:(⟨H.objs.set H.next (.loop .ready none a.tm a.n ps as bd d),Nat.succ H.next,H.grps,H.low⟩:EH)=H1 at h
 have hn1:H1.next=H.next+1:=by rw [← hH1]
 cases hv:a.eval g with
 | func gi first captured =>
  rw [hv] at h
  have h:afterLoop f ro H.next a1 (f (.call gi (app3 first [.yld H.next] captured) H1))=some r:=h
  cases hc:f (.call gi (app3 first [.yld H.next] captured) H1) with
  | none=>rw [hc] at h;cases h
  | some r0 =>
   rw [hc] at h
   obtain ⟨v,H2,rfl,hn2,⟨fn',c',c1,c2,c3⟩,hcall⟩:=hs _ _ hc
   have h:(match H2.objs.get H.next with
    | some (.loop st pend tm n ps as bd df)=>cond (nK st) (Fq f ro a1 (dZ H2 H.next .exhausted pend tm n ps as bd df) pend) none
    | _=>none)=some r:=h
   split at h
   ·rename_i st pend tm n' ps' as' bd' df' hl2
    cases hnb:nK st with
    | false=>rw [hnb] at h;cases h
    | true =>
     rw [hnb] at h
     have h:Fq f ro a1 (dZ H2 H.next .exhausted pend tm n' ps' as' bd' df') pend=some r:=h
     generalize hH3:dZ H2 H.next .exhausted pend tm n' ps' as' bd' df'=H3 at h
     have hn3:H3.next=H2.next:=by rw [← hH3];rfl
     have hp:(∀ v H',r ≠ .v v H')∧H3.next≤r.H.next∧∀ R w A1 n rr,Rel R All H3 w→WF H3→Free R H3 r.H→AR R a1 A1→Ro R ro rr→(match pend with | none=>PostC R H3 r w .normal A1 w | some c=>c.wpIn (FF rr) n P (PostC R H3 r w) A1 w):=by
      cases pend with
      | none =>
       have h:some (Res.normal a1 H3)=some r:=h
       cases h
       exact ⟨(fun v H' e=>by cases e),Nat.le_refl _,fun R w A1 n rr hr hw _ ha _=>⟨R,SimA.refl hw hr,ha⟩⟩
      | some c =>
       have h:f (.code ro c a1 H3)=some r:=h
       obtain ⟨k1,k2,m,k3⟩:=hs _ _ h
       exact ⟨k1,k2,fun R w A1 n rr hr hw hf ha hro=>wpM.wp (k3 R w A1 n rr hr hw hf ha hro)⟩
     obtain ⟨p1,p2,p3⟩:=hp
     refine ⟨p1,by omega,fun R w A A1 n rr rd fn hr hw hf ha ha1 hro hd Q hQ=>?_⟩
     have hvA:=ha.eval g
     rw [hv] at hvA
     obtain ⟨R1,simN,hm1,_⟩:=um hr hw (hf _ (Nat.le_refl _) (by omega)).1 (.loop .ready none a.tm a.n ps as bd d) rfl
      (.loop { state := .ready,pending:=none,fn,tmps:=A.tmps,params:=ps,assign:=as,body:=bd,defers:=rd }) 0
      (fun R' hle hb _=>⟨rfl,_,(WA.alloc w _).neu,fun _=>⟨rfl,rfl,rfl,rfl,rfl,ha.tm.mono hle,hle.bm _ _ hd⟩⟩) (WA.alloc w _)
     have simN:=simN.toA
     rw [hH1] at simN
     have hle1:=simN.le hr (hf.less (by omega))
     have hf1:Free R1 H1 r.H:=simN.free hf
     have hgv:∃ l' m',A.eval g = .func (.func gi) l' m'∧AL R first l'∧AL R captured m':=by
      generalize A.eval g=z at hvA
      cases hvA with
      | func hl hv hm hv'=>exact ⟨_,_,rfl,⟨hl,hv⟩,⟨hm,hv'⟩⟩
     obtain ⟨l',m',e1,e2,e3⟩:=hgv
     refine ⟨{ target := .fn (.func gi) m',args:=l'++#[.func (.yield w.heap.size) #[] #[]] },w.alloc (.loop { state := .ready,pending:=none,fn,tmps:=A.tmps,params:=ps,assign:=as,body:=bd,defers:=rd }),gi,l'++#[.func (.yield w.heap.size) #[] #[]]++m',w.alloc (.loop { state := .ready,pending:=none,fn,tmps:=A.tmps,params:=ps,assign:=as,body:=bd,defers:=rd }),?_,?_,?_⟩
     ·show (Deferred.ofValue (A.eval g) (#[Operand.const (.func (.yield w.heap.size) #[] #[])].map A.eval)).run P _=_
      rw [e1,show (#[Operand.const (.func (.yield w.heap.size) #[] #[])].map A.eval)=#[.func (.yield w.heap.size) #[] #[]] by simp [Act.eval]]
      rfl
     ·exact uw c1 c2 c3 _ _
     ·refine yw (CallsIn.mono (hcall R1 _ _ (n-1) simN.rel simN.wf (hf1.less (by omega)) (AL.app3 (e2.mono hle1) (AL.one (.yld hm1)) (e3.mono hle1))) fun e w3 ⟨x,R2,ee,hx,sim2⟩=>?_)
      subst ee
      have hle2:=sim2.le simN.rel (hf1.less (by omega))
      have hm2:=hle2.bm _ _ hm1
      obtain ⟨_,L2,q1,q2,q3,q4,q5,q6,q7,q8⟩:=uu sim2.rel hl2 hm2
      have simL:=nS sim2.rel sim2.wf hl2 hm2 q1 q4 q5 q6 q7 q8 .exhausted pend
      rw [hH3] at simL
      subst q3
      refine ⟨L2.pending,_,run_endLoop q1 (by rw [q2];intro e;rw [e] at hnb;cases hnb),?_⟩
      have hf3:Free R2 H3 r.H:=by
       have:=sim2.free hf1
       exact fun b h1 h2=>this b (by omega) h2
      have:=p3 R2 _ A1 n rr simL.rel simL.wf hf3 (ha1.mono (hle1.trans hle2)) (hro.mono (hle1.trans hle2))
      have up:∀ e A w',PostC R2 H3 r (w3.putObj w.heap.size (.loop { L2 with state := .exhausted,pending:=L2.pending })) e A w'→Q e A w':=fun e A w' ⟨R3,s3,x3⟩=>hQ _ _ _ ⟨R3,((simN.trans sim2).trans simL).trans s3,x3⟩
      cases hpd:L2.pending with
      | none=>rw [hpd] at this up;exact up _ _ _ this
      | some c=>rw [hpd] at this up;exact wpIn_mono this up
   ·cases h
 | _=>rw [hv] at h;cases h
theorem GN {f:Task→Option Res} (hs:dQ P f) {ro:Option Nat} {g:Operand} {ps:Array Tmp} {as bd:Code} {a:EA} {H:EH} {r:Res} (h:jy f ro g ps as bd a H=some r) :
 Spec P (.code ro (.rangeFunc g ps as bd) a H) r:=by
 unfold jy at h
 cases ro with
 | some l0 =>
  simp only at h
  split at h
  ·rename_i st pend tm n0 ps0 as0 bd0 df hl0
   obtain ⟨k1,k2,k3⟩:=rG hs h
   refine ⟨k1,k2,0,fun R w A n rr hr hw hf ha hro=>?_⟩
   show (Code.rangeFunc g ps as bd).wpIn _ _ _ _ _ _
   cases rr with
   | none=>exact hro.elim
   | some lr =>
    have hro':R.bm l0=some (lr,0):=hro
    obtain ⟨_,L,q1,q2,q3,q4,q5,q6,q7,q8⟩:=uu hr hl0 hro'
    refine wpIn_rangeFunc fun fn _=>?_
    obtain ⟨dd,w1',ff,args,w2,e1,e2,e3⟩:=k3 R w A A n (some lr) L.defers fn hr hw hf ha ha hro q8 (PostC R H r w) (fun _ _ _ h=>h)
    exact ⟨w.heap.size,[],_,dd,w1',ff,args,w2,run_enterLoop_inner q1 fn A.tmps ps as bd,e1,fun f' _=>rC (some lr) f',e2,(fun e=>by cases e),e3⟩
  ·cases h
 | none =>
  simp only [dA] at h
  generalize hHd:(⟨H.objs.set H.next (.dfr true),Nat.succ H.next,H.grps,H.low⟩:EH)=Hd at h
  have hn:Hd.next=H.next+1:=by rw [← hHd]
  obtain ⟨k1,k2,k3⟩:=rG hs h
  refine ⟨k1,by omega,0,fun R w A n rr hr hw hf ha hro=>?_⟩
  show (Code.rangeFunc g ps as bd).wpIn _ _ _ _ _ _
  cases rr with
  | some lr=>exact hro.elim
  | none =>
   refine wpIn_rangeFunc fun fn _=>?_
   obtain ⟨R1,simN,hm1,_⟩:=um hr hw (hf _ (Nat.le_refl _) (by omega)).1 (.dfr true) rfl (.deferred (some [])) 0 (fun R' hle hb _=>⟨rfl,_,(WA.alloc w _).neu,fun _=>rfl⟩) (WA.alloc w _)
   have simN:=simN.toA
   rw [hHd] at simN
   have hle1:=simN.le hr (hf.less (by omega))
   have hf1:Free R1 Hd r.H:=simN.free hf
   have ha1:AR R1 ⟨a.tm,a.n,H.next::a.df⟩ { A with defers:=[I7 w.heap.size]++A.defers }:=⟨ha.tm.mono hle1,⟨_,hm1,rfl⟩,ha.df.mono hle1⟩
   obtain ⟨dd,w1',ff,args,w2,e1,e2,e3⟩:=k3 R1 (w.alloc (.deferred (some []))) A _ n none w.heap.size fn simN.rel simN.wf hf1 (ha.mono hle1) ha1 trivial hm1 (PostC R H r w) (fun e A w' ⟨R2,s2,x2⟩=>⟨R2,simN.trans s2,x2⟩)
   have hsz:(w.alloc (.deferred (some []))).heap.size=w.heap.size+1:=(WA.alloc w _).size
   rw [hsz] at e1 e3
   exact ⟨w.heap.size+1,[I7 w.heap.size],_,dd,w1',ff,args,w2,run_enterLoop_outer fn A.tmps ps as bd,e1,fun f' _=>rC none f',e2,(fun e=>by cases e),e3⟩
theorem lG {F:Fence} {n:Nat} {c:Code} {Q Q':Exit→Act→World→Prop} (hq:∀ e a w,Q e a w→Q' e a w):∀ (m:Nat) (a:Act) (w:World),Code.roundsIn F n P c Q m a w→Code.roundsIn F n P c Q' m a w:=by
 intro m
 induction m with
 | zero=>intro a w h;exact h.elim
 | succ m ih =>
  intro a w h
  exact Go.wpIn_mono h fun e a w q=>by cases e<;>first | exact ih _ _ q | exact hq _ _ _ q
theorem wpM.mono {m:Nat} {F:Fence} {n:Nat} {c:Code} {Q Q':Exit→Act→World→Prop} {A:Act} {w:World} (h:wpM m F n P c Q A w) (hq:∀ e a w,Q e a w→Q' e a w):wpM m F n P c Q' A w:=by
 cases c<;>first | exact Go.wpIn_mono h hq | exact lG hq m _ _ h
def aN (P:Program):Prop:=∀ f,dQ P f→∀ ops a H r,jh ops=true→doneD P ops (eX P f ops ops.toList a H)=some r →
 (∀ v H',r ≠ .v v H')∧H.next≤r.H.next∧∀ R w A n rr id,Rel R All H w→WF H→Free R H r.H→AR R a A→(Code.region id ops true).wpIn (FF rr) n P (PostC R H r w) A w
theorem PostC.trans {R R1:Ren} {H H1:EH} {r:Res} {w w1:World} (s:SimA R R1 H H1 w w1):∀ e A w',PostC R1 H1 r w1 e A w'→PostC R H r w e A w':=fun _ _ _ ⟨R2,s2,x2⟩=>⟨R2,s.trans s2,x2⟩
theorem BG {f:Task→Option Res} (hs:dQ P f) {ro:Option Nat} {x y:Code} {a:EA} {H:EH} {r:Res} (h:zT f ro y (f (.code ro x a H))=some r) :
 (∀ v H',r ≠ .v v H')∧H.next≤r.H.next∧∃ m,∀ R w A n rr,Rel R All H w→WF H→Free R H r.H→AR R a A→Ro R ro rr→x.wpIn (FF rr) n P (fun e A1 w1=>(∀ Q:Exit→Act→World→Prop,(∀ e A w',PostC R H r w e A w'→Q e A w')→Exit.then (wpM m (FF rr) n P y Q) Q e A1 w1)) A w:=by
 cases h1:f (.code ro x a H) with
 | none=>rw [h1] at h;cases h
 | some r1 =>
  rw [h1] at h
  obtain ⟨j1,j2,m1,j3⟩:=hs _ _ h1
  cases r1 with
  | v v H'=>exact absurd rfl (j1 v H')
  | normal a1 H1 =>
   have h:f (.code ro y a1 H1)=some r:=h
   obtain ⟨k1,k2,m,k3⟩:=hs _ _ h
   have j2:H.next≤H1.next:=j2
   refine ⟨k1,by omega,m,fun R w A n rr hr hw hf ha hro=>Go.wpIn_mono (wpM.wp (j3 R w A n rr hr hw (hf.less k2) ha hro)) fun e A1 w1 ⟨R1,s1,x1⟩ Q hQ=>?_⟩
   cases e<;>try exact x1.elim
   have hle:=s1.le hr (hf.less k2)
   exact (k3 R1 w1 A1 n rr s1.rel s1.wf (s1.free hf) x1 (hro.mono hle)).mono fun e A w' p=>hQ _ _ _ (PostC.trans s1 _ _ _ p)
  | exit id a1 H1 =>
   have h:some (Res.exit id a1 H1)=some r:=h
   cases h
   refine ⟨j1,j2,0,fun R w A n rr hr hw hf ha hro=>Go.wpIn_mono (wpM.wp (j3 R w A n rr hr hw hf ha hro)) fun e A1 w1 p Q hQ=>?_⟩
   have q:=hQ _ _ _ p
   obtain ⟨_,_,x1⟩:=p
   cases e<;>first | exact x1.elim | exact q
  | ret a1 H1 =>
   have h:some (Res.ret a1 H1)=some r:=h
   cases h
   refine ⟨j1,j2,0,fun R w A n rr hr hw hf ha hro=>Go.wpIn_mono (wpM.wp (j3 R w A n rr hr hw hf ha hro)) fun e A1 w1 p Q hQ=>?_⟩
   have q:=hQ _ _ _ p
   obtain ⟨_,_,x1⟩:=p
   cases e<;>first | exact x1.elim | exact q
section
variable {F:Fence} {n:Nat} {b:Frame} {a:Act} {k:List Item} {cs:List Frame} {w:World} {Q:Exit→Act→World→Prop}
theorem iw {c:Code}:Go.step P (lone (b.atR a (.code (.scope c)::k)) cs w) = .next (lone (b.atR a (.code c :: .inScope c::k)) cs w):=step_lone_go (by simp [stepG,stepG.exec,Frame.atR])
theorem zI {c:Code}:Go.step P (lone (b.atR a (.inScope c::k)) cs w) = .next (lone (b.atR a k) cs w):=step_lone_go (by simp [stepG,stepG.exec,Frame.atR])
theorem IQ {c:Code} (h:c.wpIn F n P (Exit.noGoto Q) a w):(Code.scope c).wpIn F n P Q a w:=by
 intro b k cs hro hb hr
 have h0:(lone (b.atR a (.code (.scope c)::k)) cs w).fenced P F:=fenced_calm hb hr rfl
 obtain ⟨e,a₁,w₁,hq,harr⟩:=h b (.inScope c::k) cs hro hb hr
 cases e with
 | normal=>exact ⟨.normal,a₁,w₁,hq,.head h0 iw (StepsIn.trans harr (.one (fenced_calm hb hr rfl) zI))⟩
 | exit id' =>
  have hx:exitTo id' (.inScope c::k)=exitTo id' k:=by simp [exitTo]
  exact ⟨.exit id',a₁,w₁,hq,fun k' hk => .head h0 iw (harr.1 k' (by rw [hx];exact hk)),
   fun hr' hk=>let ⟨k₁,h1,h2⟩:=harr.2 hr' (by rw [hx];exact hk);⟨k₁,h1,.head h0 iw h2⟩⟩
 | goto l=>exact hq.elim
 | ret=>exact ⟨_,a₁,w₁,hq,.of_steps (.one h0 iw) harr⟩
 | panic ch=>exact ⟨_,a₁,w₁,hq,.of_steps (.one h0 iw) harr⟩
 | outgrown=>exact ⟨_,a₁,w₁,hq,.of_steps (.one h0 iw) harr⟩
end
theorem jc (hD:aN P) {f:Task→Option Res} (hs:dQ P f) {ro:Option Nat} {c:Code} {a:EA} {H:EH} {r:Res} (h:zf c P f ro a H=some r):Spec P (.code ro c a H) r:=by
 cases c
 case skip =>
  have h:some (Res.normal a H)=some r:=h
  cases h
  exact ⟨(fun v H' e=>by cases e),Nat.le_refl _,0,fun R w A n rr hr hw hf ha hro=>wpIn_skip ⟨R,.refl hw hr,ha⟩⟩
 case label l =>
  have h:some (Res.normal a H)=some r:=h
  cases h
  exact ⟨(fun v H' e=>by cases e),Nat.le_refl _,0,fun R w A n rr hr hw hf ha hro=>wpIn_label ⟨R,.refl hw hr,ha⟩⟩
 case region id ops d =>
  cases d with
  | false =>
   have h:nrm a H (fun a H=>qw P f ops ops.toList a H)=some r:=h
   rw [Qz] at h
   obtain ⟨a',H',rfl,k1,k2⟩:=Af hs ops _ _ _ _ h
   exact ⟨(fun v H' e=>by cases e),k1,0,fun R w A n rr hr hw hf ha hro=>wpIn_region_list (k2 R w A n rr hr hw hf ha _ fun R' w' A' ha' hs'=>⟨R',hs',ha'⟩)⟩
  | true =>
   have h:cond (jh ops) (doneD P ops (eX P f ops ops.toList a H)) none=some r:=h
   cases hsh:jh ops with
   | false=>rw [hsh] at h;cases h
   | true =>
    rw [hsh] at h
    obtain ⟨k1,k2,k3⟩:=hD f hs ops a H r hsh h
    exact ⟨k1,k2,0,fun R w A n rr hr hw hf ha _=>k3 R w A n rr id hr hw hf ha⟩
 case seq x y =>
  obtain ⟨k1,k2,m,k3⟩:=BG hs (x:=x) (y:=y) h
  exact ⟨k1,k2,0,fun R w A n rr hr hw hf ha hro=>wpIn_seq (Go.wpIn_mono (k3 R w A n rr hr hw hf ha hro) fun e A1 w1 p=>by
   have:=p (PostC R H r w) (fun _ _ _ h=>h)
   cases e<;>first | exact wpM.wp this | exact this)⟩
 case loop body =>
  have h:vX body P f ro a H=some r:=h
  cases hml:kW body with
  | some ml =>
   have e:vX body P f ro a H=mr P f ro ml a H:=by unfold vX;rw [hml]
   exact zF hs hml (by rw [e] at h;exact h)
  | none =>
  have e:vX body P f ro a H=QH body P f ro a H:=by unfold vX;rw [hml]
  have h:zT f ro (.loop body) (f (.code ro body a H))=some r:=by rw [e] at h;exact h
  obtain ⟨k1,k2,m,k3⟩:=BG hs (x:=body) (y := .loop body) h
  exact ⟨k1,k2,m+1,fun R w A n rr hr hw hf ha hro=>Go.wpIn_mono (k3 R w A n rr hr hw hf ha hro) fun e A1 w1 p=>p (PostC R H r w) (fun _ _ _ h=>h)⟩
 case cond c x y =>
  have h:nX f ro x y a H (a.eval c)=some r:=h
  unfold nX at h
  split at h
  ·rename_i hv
   obtain ⟨k1,k2,m,k3⟩:=hs _ _ h
   refine ⟨k1,k2,0,fun R w A n rr hr hw hf ha hro=>wpIn_cond_true ?_ (wpM.wp (k3 R w A n rr hr hw hf ha hro))⟩
   have:=ha.eval c
   rw [hv] at this
   generalize A.eval c=z at this ⊢
   cases this;rfl
  ·rename_i hv
   obtain ⟨k1,k2,m,k3⟩:=hs _ _ h
   refine ⟨k1,k2,0,fun R w A n rr hr hw hf ha hro=>wpIn_cond_false ?_ (wpM.wp (k3 R w A n rr hr hw hf ha hro))⟩
   have:=ha.eval c
   rw [hv] at this
   generalize A.eval c=z at this ⊢
   cases this;rfl
  ·cases h
 case block id c =>
  have h:gU id (f (.code ro c a H))=some r:=h
  cases h1:f (.code ro c a H) with
  | none=>rw [h1] at h;cases h
  | some r1 =>
   rw [h1] at h
   obtain ⟨k1,k2,m,k3⟩:=hs _ _ h1
   have fin:(∀ v H',r ≠ .v v H')→r1.H=r.H→(∀ R' e A,ExitR R' r1 e A→∀ Q:Exit→Act→World→Prop,∀ w',(∀ e',ExitR R' r e' A→Q e' A w')→Exit.inBlock id Q e A w')→Spec P (.code ro (.block id c) a H) r:=by
    intro g1 g2 g3
    refine ⟨g1,by show H.next≤r.H.next;rw [← g2];exact k2,0,fun R w A n rr hr hw hf ha hro=>wpIn_block (Go.wpIn_mono (wpM.wp (k3 R w A n rr hr hw (by rw [g2];exact hf) ha hro)) fun e A1 w1 ⟨R1,s1,x1⟩=>?_)⟩
    exact g3 R1 e A1 x1 _ w1 fun e' x'=>⟨R1,by rw [← g2];exact s1,x'⟩
   cases r1 with
   | v v H'=>exact absurd rfl (k1 v H')
   | normal a1 H1 =>
    have h:some (Res.normal a1 H1)=some r:=h
    cases h
    exact fin k1 rfl fun R' e A x Q w' hq=>by cases e<;>first | exact x.elim | exact hq .normal x
   | ret a1 H1 =>
    have h:some (Res.ret a1 H1)=some r:=h
    cases h
    exact fin k1 rfl fun R' e A x Q w' hq=>by cases e<;>first | exact x.elim | exact hq .ret x
   | exit id' a1 H1 =>
    have h:cond (Nat.beq id' id) (some (Res.normal a1 H1)) (some (.exit id' a1 H1))=some r:=h
    rw [aH] at h
    by_cases e:id'=id
    ·rw [if_pos e] at h
     cases h
     refine fin (fun v H' e=>by cases e) rfl fun R' e' A x Q w' hq=>?_
     cases e'<;>try exact x.elim
     obtain ⟨x1,x2⟩:=x
     show if _ then _ else _
     rw [if_pos (x1.trans e)]
     exact hq .normal x2
    ·rw [if_neg e] at h
     cases h
     refine fin k1 rfl fun R' e' A x Q w' hq=>?_
     cases e'<;>try exact x.elim
     obtain ⟨x1,x2⟩:=x
     show if _ then _ else _
     rw [if_neg (by rw [x1];exact e)]
     exact hq (.exit _) ⟨x1,x2⟩
 case exit id =>
  have h:some (Res.exit id a H)=some r:=h
  cases h
  exact ⟨(fun v H' e=>by cases e),Nat.le_refl _,0,fun R w A n rr hr hw hf ha hro=>wpIn_exit ⟨R,.refl hw hr,rfl,ha⟩⟩
 case ret =>
  have h:some (Res.ret a H)=some r:=h
  cases h
  exact ⟨(fun v H' e=>by cases e),Nat.le_refl _,0,fun R w A n rr hr hw hf ha hro=>wpIn_ret ⟨R,.refl hw hr,ha⟩⟩
 case rangeFunc g ps as bd=>exact GN hs h
 case scope c =>
  obtain ⟨k1,k2,m,k3⟩:=hs _ _ h
  exact ⟨k1,k2,0,fun R w A n rr hr hw hf ha hro=>IQ (Go.wpIn_mono (wpM.wp (k3 R w A n rr hr hw hf ha hro)) fun e A1 w1 p=>by
   cases e<;>first | exact p | (obtain ⟨_,_,x⟩:=p;cases r<;>exact x.elim))⟩
 all_goals (cases h)
def dC (P:Program) (X:Ext):Prop:=∀ g x args H v,X g=some x→x args H=some (true,v)→SpecCall P g args H v (bump H)
theorem Rn (H:EH):AA H=bump H:=by unfold AA;rw [dA];rfl
theorem SimA.bump {R R':Ren} {H H':EH} {w w':World} (h:SimA R R' H H' w w') (hf:R'.bm H'.next=none):SimA R R' H (bump H') w w' :=
 h.trans (xw h.rel h.wf hf).toA
theorem SpecCall.bump {g:FuncId} {args:List V} {H:EH} {v:V} (h:SpecCall P g args H v H):SpecCall P g args H v (bump H):=by
 obtain ⟨h1,h2,h3⟩:=h
 refine ⟨Nat.le_succ _,h2,fun R w args' n hr hw hf ha=>CallsIn.mono (h3 R w args' n hr hw (fun b a c=>absurd c (by omega)) ha) fun e w' ⟨x,R',e1,e2,e3⟩=>⟨x,R',e1,e2,e3.bump ?_⟩⟩
 rw [e3.rx.same H.next (by omega)]
 exact (hf H.next (Nat.le_refl _) (Nat.lt_succ_self _)).1
theorem aj:dC P aA:=fun _ _ _ _ _ h=>by cases h
theorem Jl (hD:aN P) {X:Ext} (hX:dC P X) {f:Task→Option Res} (hs:dQ P f):dQ P (step P X f):=by
 intro t r h
 cases t with
 | call g args H =>
  have h:rW P X.sym f g args H (X g)=some r:=h
  unfold rW at h
  split at h
  ·exact nD hs h
  ·rename_i x hx
   unfold V7 at h
   split at h
   ·rename_i b v hv
    cases b with
    | true =>
     have h:some (Res.v v (AA H))=some r:=h
     rw [Rn] at h
     cases h;exact ⟨v,bump H,rfl,hX _ _ _ _ _ hx hv⟩
    | false=>exact nD hs h
   ·exact nD hs h
 | callV fv args H=>exact Ei hs h
 | code ro c a H=>exact jc hD hs h
theorem nY (hD:aN P) {X:Ext} (hX:dC P X):∀ n,dQ P (ev P X n)
 | 0=>fun t r h=>by cases h
 | n+1=>Jl hD hX (nY hD hX n)
end Go.Ev
/- Which operations of a region come before which. -/
namespace Go.Ev
open Go
theorem Nb {α:Type} (F:Array Nat→α→Nat):∀ (l:List α) (A:Array Nat),
 (l.foldl (fun acc o=>acc.push (F acc o)) A).size=A.size+l.length∧(∀ i,i<A.size→(l.foldl (fun acc o=>acc.push (F acc o)) A).getD i 0=A.getD i 0) ∧
 ∀ k (h:k<l.length),∃ C:Array Nat,(∀ i,i<A.size+k→C.getD i 0=(l.foldl (fun acc o=>acc.push (F acc o)) A).getD i 0)∧(l.foldl (fun acc o=>acc.push (F acc o)) A).getD (A.size+k) 0=F C l[k]:=by
 intro l
 induction l with
 | nil=>intro A;exact ⟨rfl,fun _ _=>rfl,fun k h=>by simp at h⟩
 | cons o l ih =>
  intro A
  obtain ⟨h1,h2,h3⟩:=ih (A.push (F A o))
  have pre:∀ i,i<A.size→(A.push (F A o)).getD i 0=A.getD i 0:=fun i hi=>by
   rw [Array.getD_eq_getD_getElem?,Array.getD_eq_getD_getElem?,Array.getElem?_push,if_neg (by omega)]
  refine ⟨by rw [List.foldl_cons,h1];simp;omega,fun i hi=>by rw [List.foldl_cons,h2 i (by simp;omega),pre i hi],fun k hk=>?_⟩
  rw [List.foldl_cons]
  cases k with
  | zero =>
   refine ⟨A,fun i hi=>?_,?_⟩
   ·rw [h2 i (by simp;omega),pre i hi]
   ·rw [Nat.add_zero,h2 A.size (by simp)]
    simp [Array.getD]
  | succ k =>
   obtain ⟨C,c1,c2⟩:=h3 k (by simpa using hk)
   have e:(A.push (F A o)).size+k=A.size+(k+1):=by simp;omega
   rw [e] at c1 c2
   exact ⟨C,c1,by simpa using c2⟩
def Bf (ops:Array Oper) (i j:Nat):Prop:=((Region.before ops).getD j 0).testBit i=true
theorem OO (C:Array Nat) (i:Nat):∀ (l:List Edge) (s:Nat),(l.foldl (fun s e=>if Region.binds .any e then s ||| 2^e.on ||| C.getD e.on 0 else s) s).testBit i=true →
 s.testBit i=true∨∃ e,e∈l∧Region.binds .any e=true∧(e.on=i∨(C.getD e.on 0).testBit i=true):=by
 intro l
 induction l with
 | nil=>intro s h;exact .inl h
 | cons e l ih =>
  intro s h
  rw [List.foldl_cons] at h
  rcases ih _ h with q | ⟨e',q1,q2,q3⟩
  ·by_cases hb:Region.binds .any e=true
   ·rw [if_pos hb] at q
    rw [Nat.testBit_or,Nat.testBit_or,Nat.testBit_two_pow] at q
    simp only [Bool.or_eq_true,decide_eq_true_eq] at q
    rcases q with (q | q) | q
    ·exact .inl q
    ·exact .inr ⟨e,by simp,hb,.inl q⟩
    ·exact .inr ⟨e,by simp,hb,.inr q⟩
   ·rw [if_neg hb] at q;exact .inl q
  ·exact .inr ⟨e',by simp [q1],q2,q3⟩
def Back (ops:Array Oper):Prop:=∀ (j:Nat) (o:Oper),ops[j]?=some o→∀ e∈o.after,Region.binds .any e=true→e.on<j
theorem Dv {ops:Array Oper} (hb:Back ops) {i j:Nat} (h:Bf ops i j):∃ o e,ops[j]?=some o∧e∈o.after∧Region.binds .any e=true∧e.on<j∧(e.on=i∨Bf ops i e.on):=by
 unfold Bf Region.before at h
 rw [← Array.foldl_toList] at h
 obtain ⟨h1,h2,h3⟩:=Nb (fun (acc:Array Nat) (o:Oper)=>o.after.foldl (fun s e=>if Region.binds .any e then s ||| 2^e.on ||| acc.getD e.on 0 else s) 0) ops.toList #[]
 by_cases hj:j<ops.toList.length
 ·obtain ⟨C,c1,c2⟩:=h3 j hj
  simp only [List.size_toArray,List.length_nil,Nat.zero_add] at c1 c2
  rw [c2,← Array.foldl_toList] at h
  have ho:ops[j]?=some ops.toList[j]:=by rw [← Array.getElem?_toList,List.getElem?_eq_getElem hj]
  rcases OO C i _ _ h with q | ⟨e,q1,q2,q3⟩
  ·simp at q
  ·have q1:e∈ops.toList[j].after:=Array.mem_toList_iff.1 q1
   have hlt:=hb j _ ho e q1 q2
   refine ⟨_,e,ho,q1,q2,hlt,q3.imp id fun q=>?_⟩
   rw [c1 _ hlt] at q
   unfold Bf Region.before
   rw [← Array.foldl_toList]
   exact q
 ·rw [Array.getD_eq_getD_getElem?,Array.getElem?_eq_none (by rw [h1];simp at hj ⊢;exact hj)] at h
  simp at h
theorem FH {ops:Array Oper} (hb:Back ops) {i:Nat}:∀ j,Bf ops i j→i<j:=by
 intro j
 induction j using Nat.strongRecOn with
 | ind j ih =>
  intro h
  obtain ⟨o,e,_,_,_,h4,h5⟩:=Dv hb h
  rcases h5 with rfl | h5
  ·exact h4
  ·exact Nat.lt_trans (ih _ h4 h5) h4
def Closed (ops:Array Oper) (L:Nat→Prop):Prop:=∀ (j:Nat) (o:Oper),L j→ops[j]?=some o→∀ e∈o.after,Region.binds .any e=true→L e.on
theorem Closed.bf {ops:Array Oper} (hb:Back ops) {L:Nat→Prop} (hc:Closed ops L) {i:Nat}:∀ j,L j→Bf ops i j→L i:=by
 intro j
 induction j using Nat.strongRecOn with
 | ind j ih =>
  intro hj h
  obtain ⟨o,e,h1,h2,h3,h4,h5⟩:=Dv hb h
  have:=hc j o hj h1 e h2 h3
  rcases h5 with rfl | h5
  ·exact this
  ·exact ih _ h4 this h5
structure Shape (ops:Array Oper):Prop where
 back:Back ops
 guard:∀ (j:Nat) (o:Oper),ops[j]?=some o→∀ g w,o.guard=some (g,w)→g<ops.size
 tmp:∀ (i j:Nat) (o o':Oper) (d:Tmp),ops[i]?=some o'→ops[j]?=some o→o'.dst=some d→i≠j→(d∈tmpsOf ops o∨o.dst=some d)→Bf ops i j∨Bf ops j i
theorem PP {ops:Array Oper} (h:jh ops=true):Shape ops:=by
 unfold jh at h
 simp only [List.all_eq_true,List.mem_range] at h
 have hlt:∀ {j:Nat} {o:Oper},ops[j]?=some o→j<ops.size:=fun h=>(Array.getElem?_eq_some_iff.1 h).1
 refine ⟨fun j o ho e he hbd=>?_,fun j o ho g w hg=>?_,fun i j o o' d hi hj hd hne hu=>?_⟩
 ·have:=h j (hlt ho)
  simp only [ho,Bool.and_eq_true] at this
  have:=Array.all_eq_true_iff_forall_mem.1 this.1.1 e he
  simpa [hbd] using this
 ·have:=h j (hlt ho)
  simp only [ho,Bool.and_eq_true,hg] at this
  simpa using this.1.2
 ·have:=h j (hlt hj)
  simp only [hj,Bool.and_eq_true,List.all_eq_true,List.mem_range] at this
  have:=this.2 i (hlt hi)
  simp only [hi,hd] at this
  rw [if_neg hne] at this
  rw [if_pos (by
   simp only [Bool.or_eq_true,List.contains_iff_mem,beq_iff_eq]
   exact hu)] at this
  split at this
  ·exact .inl this
  ·exact .inr this
end Go.Ev
/- Regions whose order is open, 1: one operation; the run in the order of the text. -/
namespace Go.Ev
open Go
variable {P:Program}
def Tch (k:OpK) (fp:FP) (g:Nat):Prop:=match k with | .light=>g∈fp.rd∨g∈fp.wrs | .heavy _ _=>True
def WrS (k:OpK) (fp:FP) (H':EH) (g:Nat):Prop:=match k with | .light=>g∈fp.wrs | .heavy _ _=>H'.low≤g
theorem Ky {f:Task→Option Res} (hs:dQ P f) {o:Oper} {a:EA} {H H':EH} {v:V} (h:mV P f a H o.op=some (v,H')) :
 ∀ R w A n rr (S:Nat→Prop),Rel R S H w→WF H→Free R H H'→(∀ x,x∈o.op.operands→VR R (a.eval x) (A.eval x))→(∀ g,Tch (qi o.op) (nR o.op a H H' (qi o.op)) g→S g) →
  ∀ (K:Act→World→Prop) (Q:Exit→Act→World→Prop),
  (∀ R' w' x W,VR R' v x→(∀ g,W g→WrS (qi o.op) (nR o.op a H H' (qi o.op)) H' g)→Sim R R' S H H' W w w'→K (A.put o.dst x) w')→o.wpIn (FF rr) n P A w K Q:=by
 unfold mV JM at h
 cases hk:qi o.op with
 | light =>
  rw [hk] at h
  have h:je o.op P a H=some (v,H'):=h
  refine fun R w A n rr S hr hw hf ha hS K Q hK=>⟨fun f _=>rC rr f,?_⟩
  obtain ⟨W,nx,w',R',x,h1,h2,h3,h4,h5⟩:=vK hr hw hf o hk ha h hS
  rw [o8,Oper.semAt_eq rr A.eval o (fun c e=>by rw [e] at h;cases h),h2]
  have:=hK R' w' x W h4 h1 h5
  rcases h3 with rfl | ⟨rfl,rfl⟩
  ·exact this
  ·exact this
 | heavy g args =>
  rw [hk] at h
  obtain ⟨dst,op,type,pos,after,guard⟩:=o
  obtain ⟨ts,rfl⟩:=Ah hk
  have h:JP (f (.callV (a.eval g) (mapO a args.toList) H))=some (v,H'):=h
  cases hf:f (.callV (a.eval g) (mapO a args.toList) H) with
  | none=>rw [hf] at h;cases h
  | some r =>
   rw [hf] at h
   obtain ⟨v1,H1,rfl,hn,hc⟩:=hs _ _ hf
   cases h
   refine fun R w A n rr S hr hw hf ha hS K Q hK=>⟨fun f _=>rC rr f,?_⟩
   have hS:∀ g,S g:=fun g=>hS g trivial
   obtain ⟨nx,w1,h1,h2⟩:=hc R w (A.eval g) (args.map A.eval) (n-1) (hr.weak fun g _=>hS g) hw hf (ha g (by simp [Op.operands,Call.operands])) (AL.mapO fun x hx=>ha x (by simp [Op.operands,Call.operands,hx]))
   rw [o8,Oper.semAt_eq rr A.eval _ (fun c e=>by cases e),zQ,h1]
   have fin:∀ R' w2 x,VR R' v x→SimA R R' H H' w w2→K (A.put dst x) w2:=fun R' w2 x hx hsim=>hK R' w2 x (LW H') hx (fun g hg=>hg) ⟨hsim.es,hsim.rx,hsim.fr,(SimA.rel hsim).weak fun _ _=>trivial⟩
   cases nx<;>first | exact h2.elim | skip
   ·exact ⟨(fun e=>by rw [uk] at e;cases e),(yw (P:=P) (rr:=rr) h2).mono fun e w2 ⟨x,R',e1,e2,e3⟩=>by subst e1;exact fin R' w2 x e2 e3⟩
   ·exact ⟨(fun e=>by rw [uk] at e;cases e),(Ap (P:=P) (rr:=rr) h2).mono fun e w2 ⟨x,R',e1,e2,e3⟩=>by subst e1;exact fin R' w2 x e2 e3⟩
theorem Ug {o:Oper} {n:Nat} {A:Act} {w:World} {K:Act→World→Prop} (h:o.wpIn Fence.wide n P A w K (fun _ _ _=>False)):∃ A' w',K A' w':=by
 have h:=h.2
 generalize (o.semAt Fence.wide.round A.eval).run P w=r at h
 cases r with
 | ok x w1 =>
  cases x<;>simp only [Oper.uponIn] at h
  case value v=>exact ⟨_,_,h⟩
  case skip=>exact ⟨_,_,h⟩
  case defer d=>exact ⟨_,_,h⟩
  case enter g args =>
   obtain ⟨e,w',fr,hR,_⟩:=h.2.2 [] (room_wide _)
   cases e with
   | returned v=>exact ⟨_,_,hR⟩
   | panicked c=>exact hR.elim
   | outgrown=>obtain ⟨_,_,q⟩:=hR;exact q.elim
  case row row args =>
   obtain ⟨v,w',hR,_⟩:=h.2 default [] (room_wide _)
   exact ⟨_,_,hR⟩
  case round l g tmps as bd =>
   obtain ⟨e,w',hR,_⟩:=h.2.2 default [] (room_wide _)
   cases e with
   | returned v=>exact ⟨_,_,hR⟩
   | panicked c=>exact hR.elim
   | outgrown=>obtain ⟨_,_,q⟩:=hR;exact q.elim
 | halt x w1=>cases x<;>simp only [Oper.uponIn] at h
theorem VK {f:Task→Option Res} (hs:dQ P f) {o:Oper} {a:EA} {H H':EH} {v:V} (h:mV P f a H o.op=some (v,H')) {R:Ren} {w:World} {A:Act} (hr:Rel R All H w) (hw:WF H) (hf:Free R H H') (ha:AR R a A) :
 ∃ R' w' x W,VR R' v x∧(∀ g,W g→WrS (qi o.op) (nR o.op a H H' (qi o.op)) H' g)∧Sim R R' All H H' W w w':=by
 obtain ⟨A',w',R',x,W,e,h1,h2,h3⟩:=Ug (Ky hs h R w A 0 none All hr hw hf (fun x _=>ha.eval x) (fun _ _=>trivial)
  (fun A' w'=>∃ R' x W,A'=A.put o.dst x∧VR R' v x∧(∀ g,W g→WrS (qi o.op) (nR o.op a H H' (qi o.op)) H' g)∧Sim R R' All H H' W w w') (fun _ _ _=>False)
  (fun R' w' x W h1 h2 h3=>⟨R',x,W,rfl,h1,h2,h3⟩))
 exact ⟨R',w',x,W,h1,h2,h3⟩
inductive StepAt (P:Program) (f:Task→Option Res) (ops:Array Oper) (o:Oper):EA→EH→EA→EH→FP→Prop where
 | yes {a:EA} {H:EH} {v:V} {H1:EH} (hw:dH ops a o.guard = .yes) (h:mV P f a (lowTo H big) o.op=some (v,H1)) :
  StepAt P f ops o a H (a.put o.dst v) (lowTo H1 (bW H.low H1.low)) (nR o.op a H H1 (qi o.op))
 | no {a:EA} {H:EH} (hw:dH ops a o.guard = .no):StepAt P f ops o a H (a.put o.dst skp) H ⟨0,0,[],[],0⟩
theorem vC (f : Task → Option Res) (ops : Array Oper) (o : Oper) (l : List Oper) (a : EA) (H : EH) : eX P f ops (o :: l) a H = (match dH ops a o.guard with
      | .yes => Lp (eX P f ops l) o a H (mV P f a (lowTo H big) o.op)
      | .no => CX a H (eX P f ops l (a.put o.dst skp) H)
      | .unk => none) := rfl
def Pn {α:Type} (x:α) (s:Nat→α):Nat→α | 0=>x | k+1=>s k
theorem Je {f:Task→Option Res} {ops:Array Oper}:∀ (l:List Oper) (a:EA) (H:EH) (r:RR),eX P f ops l a H=some r →
 ∃ (As:Nat→EA) (Hs:Nat→EH) (fp:Nat→FP),As 0=a∧Hs 0=H∧As l.length=r.a∧Hs l.length=r.H∧r.fps.length=l.length∧(∀ k,k<l.length→iZ r.fps k=fp k)∧(∀ k,k≤l.length→r.st[k]?=some (As k,Hs k)) ∧
  ∀ k (h:k<l.length),StepAt P f ops l[k] (As k) (Hs k) (As (k+1)) (Hs (k+1)) (fp k):=by
 intro l
 induction l with
 | nil =>
  intro a H r h
  have h:some (⟨a,H,[],[(a,H)]⟩:RR)=some r:=h
  cases h
  exact ⟨fun _=>a,fun _=>H,fun _=>⟨0,0,[],[],0⟩,rfl,rfl,rfl,rfl,rfl,fun k hk=>by simp at hk,fun k hk=>by simp at hk;subst hk;rfl,fun k hk=>by simp at hk⟩
 | cons o l ih =>
  intro a H r h
  rw [vC] at h
  have glue:∀ a1 H1 fp0 r1,eX P f ops l a1 H1=some r1→StepAt P f ops o a H a1 H1 fp0→r=⟨r1.a,r1.H,fp0::r1.fps,(a,H)::r1.st⟩ →
   ∃ (As:Nat→EA) (Hs:Nat→EH) (fp:Nat→FP),As 0=a∧Hs 0=H∧As (o::l).length=r.a∧Hs (o::l).length=r.H∧r.fps.length=(o::l).length∧(∀ k,k<(o::l).length→iZ r.fps k=fp k)∧(∀ k,k≤(o::l).length→r.st[k]?=some (As k,Hs k)) ∧
    ∀ k (h:k<(o::l).length),StepAt P f ops (o::l)[k] (As k) (Hs k) (As (k+1)) (Hs (k+1)) (fp k):=by
   intro a1 H1 fp0 r1 h1 hst hr
   obtain ⟨As,Hs,fp,e1,e2,e3,e4,e5,e6,e8,e7⟩:=ih _ _ _ h1
   subst hr
   refine ⟨Pn a As,Pn H Hs,Pn fp0 fp,rfl,rfl,e3,e4,by simp [e5],fun k hk=>?_,fun k hk=>?_,fun k hk=>?_⟩
   ·cases k with
    | zero=>rfl
    | succ k=>exact e6 k (by simpa using hk)
   ·cases k with
    | zero=>rfl
    | succ k=>exact e8 k (by simpa using hk)
   ·cases k with
    | zero=>show StepAt P f ops o a H (As 0) (Hs 0) fp0;rw [e1,e2];exact hst
    | succ k=>exact e7 k (by simpa using hk)
  cases hw:dH ops a o.guard with
  | yes =>
   rw [hw] at h
   simp only at h
   cases ho:mV P f a (lowTo H big) o.op with
   | none=>rw [ho] at h;cases h
   | some p =>
    obtain ⟨v,H1⟩:=p
    rw [ho] at h
    have h:(match eX P f ops l (a.put o.dst v) (lowTo H1 (bW H.low H1.low)) with
     | some r=>some ⟨r.a,r.H,nR o.op a H H1 (qi o.op)::r.fps,(a,H)::r.st⟩
     | none=>none)=some r:=h
    split at h
    ·rename_i r1 hr1
     cases h
     exact glue _ _ _ r1 hr1 (.yes hw ho) rfl
    ·cases h
  | no =>
   rw [hw] at h
   simp only at h
   cases hr1:eX P f ops l (a.put o.dst skp) H with
   | none=>rw [hr1] at h;cases h
   | some r1 =>
    rw [hr1] at h
    cases h
    exact glue _ _ _ r1 hr1 (.no hw) rfl
  | unk=>rw [hw] at h;cases h
end Go.Ev
/- Regions whose order is open, 2: what holds in the middle of whatever order. -/
namespace Go.Ev
open Go
variable {P:Program}
structure Reg (ops:Array Oper) (As:Nat→EA) (Hs:Nat→EH) (T Wd:Nat→Nat→Prop):Prop where
 es:∀ k,k<ops.size→ES (Hs k) (Hs (k+1)) (Wd k)
 wf:WF (Hs 0)
 nc:∀ i k,i<ops.size→k<ops.size→i≠k→¬ Bf ops i k→¬ Bf ops k i→∀ g,g<(Hs k).next→Wd k g→T i g→False
 nc2:∀ i k,i<ops.size→k<ops.size→i≠k→¬ Bf ops i k→¬ Bf ops k i→∀ g,g<(Hs k).next→Wd k g→(Hs i).next≤g→g<(Hs (i+1)).next→False
 wt:∀ i g,i<ops.size→g<(Hs i).next→Wd i g→T i g
 put:∀ i o,ops[i]?=some o→∃ v,As (i+1)=(As i).put o.dst v
 out:∀ i,(As 0).n≤i→(As 0).tm.get i=none
section
variable {ops:Array Oper} {As:Nat→EA} {Hs:Nat→EH} {T Wd:Nat→Nat→Prop} (G:Reg ops As Hs T Wd) (hsh:Shape ops)
def Wds (Wd:Nat→Nat→Prop) (i j:Nat) (g:Nat):Prop:=∃ k,i≤k∧k<j∧Wd k g
include G in
theorem Reg.wfs:∀ i,i≤ops.size→WF (Hs i)
 | 0,_=>G.wf
 | i+1,h=>(G.es i h).wf
include G in
theorem Reg.chain {i:Nat}:∀ j,i≤j→j≤ops.size→ES (Hs i) (Hs j) (Wds Wd i j):=by
 intro j
 induction j with
 | zero =>
  intro h1 h2
  have:i=0:=by omega
  subst this
  have e:=ES.refl (G.wfs 0 h2)
  exact ⟨e.next,e.low,e.old,fun b o h _=>e.keep b o h id,e.back,e.wf,fun g ⟨k,a,b,_⟩=>by omega,fun b o h1 h2=>(e.neu b o h1 h2).imp id fun h=>h.elim⟩
 | succ j ih =>
  intro h1 h2
  by_cases e:i=j+1
  ·subst e
   have e:=ES.refl (G.wfs (j+1) h2)
   exact ⟨e.next,e.low,e.old,fun b o h _=>e.keep b o h id,e.back,e.wf,fun g ⟨k,a,b,_⟩=>by omega,fun b o h1 h2=>(e.neu b o h1 h2).imp id fun h=>h.elim⟩
  ·have c:=(ih (by omega) (by omega)).trans (G.es j (by omega))
   have sub:∀ g,(Wds Wd i j g∨Wd j g)↔Wds Wd i (j+1) g:=fun g =>
    ⟨fun h=>h.elim (fun ⟨k,a,b,c⟩=>⟨k,a,by omega,c⟩) (fun h=>⟨j,by omega,by omega,h⟩),
     fun ⟨k,ka,kb,kw⟩=>by
      by_cases e:k=j
      ·rw [e] at kw;exact .inr kw
      ·exact .inl ⟨k,ka,by omega,kw⟩⟩
   exact ⟨c.next,c.low,c.old,fun b o h hn=>c.keep b o h fun q=>hn ((sub _).1 q),c.back,c.wf,fun g h=>c.wr g ((sub g).2 h),fun b o h1 h2=>(c.neu b o h1 h2).imp id (sub _).1⟩
include G in
theorem Reg.next {i j:Nat} (h:i≤j) (hj:j≤ops.size):(Hs i).next≤(Hs j).next:=(G.chain j h hj).next
include G in
theorem Reg.fin {j b:Nat} {o:EO} (hj:j≤ops.size) (h:(Hs j).objs.get b=some o):∃ o',(Hs ops.size).objs.get b=some o'∧aG b o'=aG b o∧bn o'=bn o:=(G.chain ops.size hj (Nat.le_refl _)).old b o h
include G in
theorem Reg.same {i j b:Nat} {o o':EO} (hi:i≤ops.size) (hj:j≤ops.size) (h:(Hs i).objs.get b=some o) (h':(Hs j).objs.get b=some o'):aG b o=aG b o'∧bn o=bn o':=by
 obtain ⟨p,p1,p2,p3⟩:=G.fin hi h
 obtain ⟨q,q1,q2,q3⟩:=G.fin hj h'
 rw [p1] at q1;cases q1
 exact ⟨p2.symm.trans q2,p3.symm.trans q3⟩
include G in
theorem Reg.at {i j b:Nat} {o:EO} (hi:i≤ops.size) (hj:j≤ops.size) (h:(Hs j).objs.get b=some o) (hb:b<(Hs i).next):∃ o',(Hs i).objs.get b=some o':=by
 by_cases e:i≤j
 ·exact (G.chain j e hj).back b o h hb
 ·obtain ⟨o',h1,_⟩:=(G.chain i (by omega) hi).old b o h
  exact ⟨o',h1⟩
include G in
theorem Reg.still {i j b:Nat} {o:EO} (h1:i≤j) (hj:j≤ops.size) (h:(Hs i).objs.get b=some o) (hn:∀ k,i≤k→k<j→Wd k (aG b o)→False):(Hs j).objs.get b=some o∧(Hs j).vd b o=(Hs i).vd b o:=by
 obtain ⟨e1,e2⟩:=(G.chain j h1 hj).keep b o h (fun ⟨k,a,b,c⟩=>hn k a b c)
 refine ⟨e1,?_⟩
 cases o with
 | cells c lo sz g =>
  show (Hs j).valid b sz g=(Hs i).valid b sz g
  unfold EH.valid
  rw [show (Hs j).grps.get g=(Hs i).grps.get g from e2]
 | _=>rfl
theorem find_born {Hs:Nat→EH} {b:Nat}:∀ j,(Hs 0).next≤b→b<(Hs j).next→∃ k,k<j∧(Hs k).next≤b∧b<(Hs (k+1)).next
 | 0,h1,h2=>by omega
 | j+1,h1,h2=>by
  by_cases h:b<(Hs j).next
  ·obtain ⟨k,a,c⟩:=find_born j h1 h
   exact ⟨k,by omega,c⟩
  ·exact ⟨j,by omega,by omega,h2⟩
theorem BI (a:EA) (d:Option Tmp) (v:V) (t:Nat):getD' (a.put d v).tm t=if d=some t∧t<a.n then v else getD' a.tm t:=by
 cases d with
 | none=>rw [if_neg (by simp)];rfl
 | some u =>
  show getD' (cond (Nat.blt u a.n) (⟨a.tm.set u v,a.n,a.df⟩:EA) a).tm t=_
  rw [dB]
  by_cases hu:u<a.n
  ·rw [if_pos hu]
   show getD' (a.tm.set u v) t=_
   rw [uO]
   by_cases e:t=u
   ·subst e;rw [if_pos rfl,if_pos ⟨rfl,hu⟩]
   ·rw [if_neg e,if_neg (by intro h;exact e (by have:=h.1;simp at this;exact this.symm))]
  ·rw [if_neg hu,if_neg (by intro h;have:=h.1;simp at this;subst this;exact hu h.2)]
theorem put_n (a:EA) (d:Option Tmp) (v:V):(a.put d v).n=a.n∧(a.put d v).df=a.df∧((∀ i,a.n≤i→a.tm.get i=none)→∀ i,a.n≤i→(a.put d v).tm.get i=none):=by
 cases d with
 | none=>exact ⟨rfl,rfl,fun h=>h⟩
 | some u =>
  show (cond (Nat.blt u a.n) (⟨a.tm.set u v,a.n,a.df⟩:EA) a).n=_∧(cond (Nat.blt u a.n) (⟨a.tm.set u v,a.n,a.df⟩:EA) a).df=_∧(_→∀ i,_→(cond (Nat.blt u a.n) (⟨a.tm.set u v,a.n,a.df⟩:EA) a).tm.get i=none)
  rw [dB]
  by_cases hu:u<a.n
  ·rw [if_pos hu]
   exact ⟨rfl,rfl,fun h i hi=>by show (a.tm.set u v).get i=none;rw [T.get_set_ne _ _ (Nat.ne_of_lt (Nat.lt_of_lt_of_le hu hi)).symm];exact h i hi⟩
  ·rw [if_neg hu];exact ⟨rfl,rfl,fun h=>h⟩
include G in
theorem Reg.frame:∀ j,j≤ops.size→(As j).n=(As 0).n∧(As j).df=(As 0).df∧∀ i,(As 0).n≤i→(As j).tm.get i=none
 | 0,_=>⟨rfl,rfl,G.out⟩
 | j+1,h=>by
  obtain ⟨e1,e2,e3⟩:=Reg.frame j (by omega)
  obtain ⟨v,hv⟩:=G.put j _ (Array.getElem?_eq_getElem h)
  obtain ⟨f1,f2,f3⟩:=put_n (As j) ops[j].dst v
  rw [hv]
  exact ⟨f1.trans e1,f2.trans e2,fun i hi=>f3 (fun i hi=>e3 i (by omega)) i (by omega)⟩
def Wr (ops:Array Oper) (k:Nat) (t:Tmp):Prop:=∃ o,ops[k]?=some o∧o.dst=some t
include G in
theorem Reg.tmps {i t : Nat} : ∀ j, i ≤ j → j ≤ ops.size → (∀ k, i ≤ k → k < j → ¬ Wr ops k t) → getD' (As j).tm t = getD' (As i).tm t := by
  intro j
  induction j with
  | zero => intro h _ _; have : i = 0 := by omega
            subst this; rfl
  | succ j ih =>
    intro h1 h2 hn
    by_cases e : i = j + 1
    · subst e; rfl
    · obtain ⟨v, hv⟩ := G.put j _ (Array.getElem?_eq_getElem h2)
      rw [hv, BI, if_neg, ih (by omega) (by omega) fun k a b => hn k a (by omega)]
      intro h
      exact hn j (by omega) (by omega) ⟨_, Array.getElem?_eq_getElem h2, h.1⟩
def Sy (ops:Array Oper) (Hs:Nat→EH) (Wd:Nat→Nat→Prop) (L:Nat→Prop) (j g:Nat):Prop:=∀ k,k<ops.size→g<(Hs k).next→Wd k g→(k<j↔L k)
structure Inv (ops:Array Oper) (As:Nat→EA) (Hs:Nat→EH) (Wd:Nat→Nat→Prop) (R0:Ren) (w0:World) (A0:Act) (L:Nat→Prop) (R:Ren) (A:Act) (w:World):Prop where
 closed:Closed ops L
 img:∀ b r d,R.bm b=some (r,d)→r<w.heap.size
 obj:∀ j,j≤ops.size→∀ b o r d,(Hs j).objs.get b=some o→R.bm b=some (r,d)→OR R (Sy ops Hs Wd L j (aG b o)) ((Hs j).vd b o) o r d w
 inj:∀ b b' o o' r d d',(Hs ops.size).objs.get b=some o→(Hs ops.size).objs.get b'=some o'→R.bm b=some (r,d)→R.bm b'=some (r,d') →
  b=b'∨(d=d'∧bn o=0∧bn o'=0∧aG b o=aG b' o')
 tsz:A.tmps.size=(As 0).n
 tmp:∀ j,j≤ops.size→∀ t,(∀ k,k<ops.size→Wr ops k t→(k<j↔L k))→VR R (getD' (As j).tm t) (A.tmps.getD t undef)
 df:A.defers=A0.defers
 non:∀ k,k<ops.size→¬ L k→∀ b,(Hs k).next≤b→b<(Hs (k+1)).next→R.bm b=none∧∀ r,R.cz b r=none
 rx:RX R0 R (Hs 0) (Hs ops.size) w0
 fr:Fr R0 (Hs 0) (Wds Wd 0 ops.size) w0 w
 frz:Frz R w
theorem OR.weak {R:Ren} {s s':Prop} {vd vd':Bool} {o o':EO} {r d:Nat} {w:World} (h:OR R s vd o r d w) (hk:bn o'=bn o) (hs:¬ s'):OR R s' vd' o' r d w:=by
 cases o<;>cases o'<;>first | (simp [bn] at hk;done) | skip
 ·obtain ⟨cs,t,fz,h1,h2,h3,_⟩:=h
  exact ⟨cs,t,fz,h1,h2,h3,fun q=>absurd q hs⟩
 ·obtain ⟨e,es',clk',h1,_⟩:=h
  exact ⟨e,es',clk',h1,fun q=>absurd q hs⟩
 ·obtain ⟨e,L,h1,_⟩:=h
  exact ⟨e,L,h1,fun q=>absurd q hs⟩
 ·obtain ⟨e,x,h1,_⟩:=h
  exact ⟨e,x,h1,fun q=>absurd q hs⟩
 ·obtain ⟨e,x1,x2,x3,x4,h1,_⟩:=h
  exact ⟨e,x1,x2,x3,x4,h1,fun q=>absurd q hs⟩
include G in
theorem inv_start {R0:Ren} {w0 w:World} {A0:Act} (hr:Rel R0 All (Hs 0) w0) (hf:Free R0 (Hs 0) (Hs ops.size)) (ha:AR R0 (As 0) A0) (hh:w.heap=w0.heap) (ho:w.os=w0.os) (ht:w.tape=w0.tape) (hp:w.output=w0.output) :
 Inv ops As Hs Wd R0 w0 A0 (fun _=>False) R0 A0 w:=by
 have old:∀ j,j≤ops.size→∀ b o r d,(Hs j).objs.get b=some o→R0.bm b=some (r,d)→∃ o0,(Hs 0).objs.get b=some o0:=fun j hj b o r d h e=>by
  refine G.at (Nat.zero_le _) hj h ?_
  have h1:=(G.wfs j hj).lt b o h
  have h2:=G.next hj (Nat.le_refl _)
  apply Nat.lt_of_not_le
  intro hge
  rw [(hf b hge (by omega)).1] at e;cases e
 refine ⟨fun j o h=>h.elim,fun b r d e=>by rw [hh];exact hr.img b r d e,fun j hj b o r d h e=>?_,fun b b' o o' r d d' h h' e e'=>?_,ha.tm.size,fun j hj t hs=>?_,rfl,fun k hk _ b h1 h2=>?_,
  ⟨fun _ _=>rfl,fun _ _=>rfl,fun b r d h1 h2 e=>(by rw [(hf b h1 h2).1] at e;cases e),fun _ _=>rfl,fun _ _ _ e => .inl e⟩,⟨ho,ht,hp,by rw [hh];exact Nat.le_refl _,fun r hr _=>by rw [hh]⟩,
  fun a r cs e=>let ⟨⟨t,fz,h1⟩,h2⟩:=hr.frz a r cs e;⟨⟨t,fz,by rw [hh];exact h1⟩,h2⟩⟩
 ·obtain ⟨o0,h0⟩:=old j hj b o r d h e
  have hor:=hr.obj b o0 r d h0 e
  by_cases hs:Sy ops Hs Wd (fun _=>False) j (aG b o)
  ·obtain ⟨q1,q2⟩:=G.still (Nat.zero_le j) hj h0 (fun k _ hk hw=>by
    have e1:=(G.same (Nat.zero_le _) hj h0 h).1
    have l1:=G.wf.root b o0 h0
    have l2:=G.wf.lt b o0 h0
    have l3:=G.next (Nat.zero_le k) (show k≤ops.size by omega)
    exact (hs k (by omega) (by rw [← e1];omega) (by rw [← e1];exact hw)).1 hk)
   rw [h] at q1;cases q1
   exact hor.mono (.refl R0) e (by rw [hh]) (fun _=>trivial) (fun q=>by rw [← q2];exact q)
  ·exact (hor.mono (.refl R0) e (by rw [hh]) (fun q=>q) id).weak (G.same hj (Nat.zero_le _) h h0).2 hs
 ·obtain ⟨p,p1⟩:=old ops.size (Nat.le_refl _) b o r d h e
  obtain ⟨p',p1'⟩:=old ops.size (Nat.le_refl _) b' o' r d' h' e'
  obtain ⟨s1,s2⟩:=G.same (Nat.zero_le _) (Nat.le_refl _) p1 h
  obtain ⟨s1',s2'⟩:=G.same (Nat.zero_le _) (Nat.le_refl _) p1' h'
  rw [← s1,← s2,← s1',← s2']
  exact hr.inj b b' p p' r d d' p1 p1' e e'
 ·rw [G.tmps j (Nat.zero_le j) hj (fun k _ hk hw=>(hs k (by omega) hw).1 hk)]
  exact ha.tm.val t
 ·have:=G.next (Nat.zero_le k) (show k≤ops.size by omega)
  have:=G.next (show k+1≤ops.size by omega) (Nat.le_refl _)
  exact hf b (by omega) (by omega)
end
end Go.Ev
/- Regions whose order is open, 3: one more operation is carried out. -/
namespace Go.Ev
open Go
section
variable {ops:Array Oper} {As:Nat→EA} {Hs:Nat→EH} {T Wd:Nat→Nat→Prop}
theorem GV (G:Reg ops As Hs T Wd) (hsh:Shape ops) {L:Nat→Prop} (hc:Closed ops L) {i:Nat} (hiN:i<ops.size) (hL:¬ L i) (hpre:∀ k,Bf ops k i→L k) {g:Nat} (ht:T i g):Sy ops Hs Wd L i g:=by
 intro k hk hg hw
 by_cases e:k=i
 ·subst e;exact ⟨fun h=>absurd h (Nat.lt_irrefl _),fun h=>absurd h hL⟩
 ·by_cases b1:Bf ops k i
  ·exact ⟨fun _=>hpre k b1,fun _=>FH hsh.back _ b1⟩
  ·by_cases b2:Bf ops i k
   ·have:=FH hsh.back _ b2
    exact ⟨fun h=>by omega,fun h=>absurd (hc.bf hsh.back k h b2) hL⟩
   ·exact (G.nc i k hiN hk (fun h=>e h.symm) b2 b1 g hg hw ht).elim
variable {R0:Ren} {w0:World} {A0:Act} {L:Nat→Prop} {R:Ren} {A:Act} {w:World}
theorem Inv.rel (G:Reg ops As Hs T Wd) (hI:Inv ops As Hs Wd R0 w0 A0 L R A w) {i:Nat} (hi:i≤ops.size):Rel R (Sy ops Hs Wd L i) (Hs i) w :=
 ⟨hI.img,hI.obj i hi,fun b b' o o' r d d' h h' e e'=>by
  obtain ⟨p,p1,p2,p3⟩:=G.fin hi h
  obtain ⟨p',p1',p2',p3'⟩:=G.fin hi h'
  rw [← p2,← p3,← p2',← p3']
  exact hI.inj b b' p p' r d d' p1 p1' e e',hI.frz⟩
theorem Hu (A:Act) (d:Option Tmp) (x:Value) {t:Nat} (h:d≠some t):(A.put d x).tmps.getD t undef=A.tmps.getD t undef:=by
 cases d with
 | none=>rfl
 | some u =>
  have hu:t≠u:=fun e=>h (by rw [e])
  show (A.tmps.setIfInBounds u x).getD t undef=_
  rw [Array.getD_eq_getD_getElem?,Array.getD_eq_getD_getElem?,Array.getElem?_setIfInBounds_ne (Ne.symm hu)]
theorem Ib (A:Act) (x:Value) {t:Nat} (h:t<A.tmps.size):(A.put (some t) x).tmps.getD t undef=x:=by
 show (A.tmps.setIfInBounds t x).getD t undef=x
 rw [Array.getD_eq_getD_getElem?,Array.getElem?_setIfInBounds_self_of_lt h];rfl
theorem tY (A:Act) (d:Option Tmp) (x:Value):(A.put d x).tmps.size=A.tmps.size∧(A.put d x).defers=A.defers:=by
 cases d with
 | none=>exact ⟨rfl,rfl⟩
 | some u=>exact ⟨by show (A.tmps.setIfInBounds u x).size=_;simp,rfl⟩
theorem Qj (G:Reg ops As Hs T Wd) (hsh:Shape ops) (hI:Inv ops As Hs Wd R0 w0 A0 L R A w) {i:Nat} {o:Oper} (hi:ops[i]?=some o) (hL:¬ L i) (hpre:∀ k,Bf ops k i→L k) (hcl:Closed ops (fun k=>k=i∨L k))
 {R':Ren} {w':World} {v:V} {x:Value} (hrx:RX R R' (Hs i) (Hs (i+1)) w) (hfr:Fr R (Hs i) (Wd i) w w') (hrel:Rel R' (Up (Sy ops Hs Wd L i) (Hs i).next) (Hs (i+1)) w') (hv:VR R' v x) (has:As (i+1)=(As i).put o.dst v) :
 Inv ops As Hs Wd R0 w0 A0 (fun k=>k=i∨L k) R' (A.put o.dst x) w':=by
 have hiN:i<ops.size:=(Array.getElem?_eq_some_iff.1 hi).1
 have hfree:Free R (Hs i) (Hs (i+1)):=hI.non i hiN hL
 have hle:R.le R':=hrx.le hfree hI.img
 have touch:=fun g=>GV (g:=g) G hsh hI.closed hiN hL hpre
 have hbf:∀ k,L k→i<k→¬ Bf ops i k∧¬ Bf ops k i:=fun k hk hlt=>⟨fun hb=>hL (hI.closed.bf hsh.back k hk hb),fun hb=>by have:=FH hsh.back _ hb;omega⟩
 have later:∀ k,k<ops.size→L k→i<k→∀ g,g<(Hs k).next→Wd k g→T i g→False:=fun k hk hLk hlt g hg hw ht =>
  G.nc i k hiN hk (by omega) (hbf k hLk hlt).1 (hbf k hLk hlt).2 g hg hw ht
 have later2:∀ k,k<ops.size→L k→i<k→∀ g,g<(Hs k).next→Wd k g→(Hs i).next≤g→g<(Hs (i+1)).next→False:=fun k hk hLk hlt g hg hw h1 h2 =>
  G.nc2 i k hiN hk (by omega) (hbf k hLk hlt).1 (hbf k hLk hlt).2 g hg hw h1 h2
 have nx:∀ {a b:Nat},a≤b→b≤ops.size→(Hs a).next≤(Hs b).next:=fun h hj=>G.next h hj
 have newAt:∀ {j b:Nat} {p:EO},j≤ops.size→(Hs j).objs.get b=some p→(Hs i).next≤b→b<(Hs (i+1)).next→i<j∧∃ p1,(Hs (i+1)).objs.get b=some p1:=fun {j b p} hj hp h1 h2=>by
  refine ⟨?_,G.at (by omega) hj hp h2⟩
  have l1:=(G.wfs j hj).lt b p hp
  apply Nat.lt_of_not_le
  intro hji
  have:=nx hji (show i≤ops.size by omega)
  omega
 refine ⟨hcl,hrel.img,fun j hj b p r d hp hb=>?_,?_,?_,fun j hj t hs=>?_,(tY A o.dst x).2.trans hI.df,fun k hk hnk b h1 h2=>?_,⟨fun b hn=>?_,fun r hr=>?_,fun b r d h1 h2 e=>?_,fun a hn=>?_,fun a r cs e=>(hrx.czn a r cs e).elim (fun e=>hI.rx.czn a r cs e) fun e => .inr (Nat.le_trans hI.fr.size e)⟩,
  ⟨hfr.os.trans hI.fr.os,hfr.tape.trans hI.fr.tape,hfr.output.trans hI.fr.output,Nat.le_trans hI.fr.size hfr.size,fun r hr hn=>?_⟩,hrel.frz⟩
 ·-- objects
  by_cases hnew:(Hs i).next≤b∧b<(Hs (i+1)).next
  ·obtain ⟨hij,p1,hp1⟩:=newAt hj hp hnew.1 hnew.2
   have hor:=hrel.obj b p1 r d hp1 hb
   obtain ⟨sr,sk⟩:=G.same (show i+1≤ops.size by omega) hj hp1 hp
   have hrt:=(G.es i hiN).neu b p1 hp1 hnew.1
   by_cases hs:Sy ops Hs Wd (fun k=>k=i∨L k) j (aG b p)
   ·obtain ⟨q1,q2⟩:=G.still (show i+1≤j by omega) hj hp1 (fun k h1 h2 hw=>by
     have l1:=(G.wfs (i+1) (by omega)).root b p1 hp1
     have l2:=nx h1 (show k≤ops.size by omega)
     have hg:aG b p1<(Hs k).next:=by omega
     have hLk:=(hs k (by omega) (by rw [← sr];exact hg) (by rw [← sr];exact hw)).1 h2
     rcases hLk with e | hLk
     ·omega
     ·rcases hrt with q | q
      ·exact later2 k (by omega) hLk (by omega) _ hg hw q (by omega)
      ·by_cases hlt:aG b p1<(Hs i).next
       ·exact later k (by omega) hLk (by omega) _ hg hw (G.wt i _ hiN hlt q)
       ·exact later2 k (by omega) hLk (by omega) _ hg hw (by omega) (by omega))
    rw [hp] at q1;cases q1
    refine hor.mono (.refl R') hb rfl (fun _=>?_) (fun q=>by rw [← q2];exact q)
    rcases hrt with q | q
    ·exact .inr q
    ·by_cases hlt:aG b p<(Hs i).next
     ·exact .inl (touch _ (G.wt i _ hiN hlt q))
     ·exact .inr (by omega)
   ·exact hor.weak sk.symm hs
  ·have hb':R.bm b=some (r,d):=by rw [← hrx.same b hnew];exact hb
   by_cases hW:Wd i (aG b p)∧aG b p<(Hs i).next
   ·have ht:=G.wt i _ hiN hW.2 hW.1
    have hbi:b<(Hs i).next:=by
     apply Nat.lt_of_not_le
     intro hge
     have l0:=(G.wfs j hj).lt b p hp
     have l1:=nx (Nat.zero_le i) (show i≤ops.size by omega)
     obtain ⟨k,k1,k2,k3⟩:=find_born j (by omega) l0
     have hik:i<k:=by
      apply Nat.lt_of_not_le
      intro hki
      by_cases e:k=i
      ·subst e;exact hnew ⟨k2,k3⟩
      ·have:=nx (show k+1≤i by omega) (show i≤ops.size by omega)
       omega
     have hLk:L k:=by
      apply Classical.byContradiction
      intro hn
      have:=(hI.non k (by omega) hn b k2 k3).1
      rw [hb'] at this;cases this
     obtain ⟨pk,hpk⟩:=G.at (show k+1≤ops.size by omega) hj hp k3
     have sr:=(G.same (show k+1≤ops.size by omega) hj hpk hp).1
     have l2:=nx (show i≤k by omega) (show k≤ops.size by omega)
     rcases (G.es k (by omega)).neu b pk hpk k2 with q | q
     ·rw [sr] at q;omega
     ·rw [sr] at q;exact later k (by omega) hLk hik _ (by omega) q ht
    obtain ⟨p1,hp1⟩:=G.at (show i+1≤ops.size by omega) hj hp (by have:=nx (show i≤i+1 by omega) (show i+1≤ops.size by omega);omega)
    have hor:=hrel.obj b p1 r d hp1 hb
    obtain ⟨sr,sk⟩:=G.same (show i+1≤ops.size by omega) hj hp1 hp
    by_cases hs:Sy ops Hs Wd (fun k=>k=i∨L k) j (aG b p)
    ·have hij:i<j:=(hs i hiN hW.2 hW.1).2 (.inl rfl)
     obtain ⟨q1,q2⟩:=G.still (show i+1≤j by omega) hj hp1 (fun k h1 h2 hw=>by
      rw [sr] at hw
      have l2:=nx (show i≤k by omega) (show k≤ops.size by omega)
      have hg:aG b p<(Hs k).next:=by omega
      rcases (hs k (by omega) hg hw).1 h2 with e | hLk
      ·omega
      ·exact later k (by omega) hLk (by omega) _ hg hw ht)
     rw [hp] at q1;cases q1
     exact hor.mono (.refl R') hb rfl (fun _ => .inl (touch _ ht)) (fun q=>by rw [← q2];exact q)
    ·exact hor.weak sk.symm hs
   ·have hor:=hI.obj j hj b p r d hp hb'
    have hheap:w'.heap[r]?=w.heap[r]?:=hfr.keep r (hI.img b r d hb') fun b1 p1 d1 h1 e1 hw=>by
     obtain ⟨q,q1,q2,q3⟩:=G.fin hj hp
     obtain ⟨q',q1',q2',q3'⟩:=G.fin (show i≤ops.size by omega) h1
     have l1:=(G.wfs i (by omega)).root b1 p1 h1
     have l2:=(G.wfs i (by omega)).lt b1 p1 h1
     have er:aG b p=aG b1 p1:=by
      rcases hI.inj b b1 q q' r d d1 q1 q1' hb' e1 with e | ⟨_,_,_,e⟩
      ·subst e;rw [q1] at q1';cases q1';rw [← q2,← q2']
      ·rw [← q2,← q2'];exact e
     exact hW ⟨by rw [er];exact hw,by omega⟩
    refine hor.mono hle hb' hheap (fun hs k hk hg hw=>?_) id
    have:=hs k hk hg hw
    by_cases e:k=i
    ·subst e;exact (hW ⟨hw,hg⟩).elim
    ·exact ⟨fun h=>(this.1 h).elim (fun q=>absurd q e) id,fun h=>this.2 (.inr h)⟩
 ·-- no two names for one
  have key:∀ b b' p p' r d d',(Hs ops.size).objs.get b=some p→(Hs ops.size).objs.get b'=some p'→R'.bm b=some (r,d)→R'.bm b'=some (r,d')→((Hs i).next≤b∧b<(Hs (i+1)).next)→¬ ((Hs i).next≤b'∧b'<(Hs (i+1)).next) →
   (d=d'∧bn p=0∧bn p'=0∧aG b p=aG b' p'):=by
   intro b b' p p' r d d' hp hp' e e' hn hn'
   rw [hrx.same b' hn'] at e'
   rcases hrx.neu b r d hn.1 hn.2 e with q | ⟨b0,o0,o1,q1,q2,q3,q4,q5,q6⟩
   ·have:=hI.img b' r d' e';omega
   ·obtain ⟨s1,s2⟩:=G.same (show i+1≤ops.size by omega) (Nat.le_refl _) q3 hp
    obtain ⟨o0',z1,z2,z3⟩:=G.fin (show i≤ops.size by omega) q1
    rcases hI.inj b0 b' o0' p' r d d' z1 hp' q2 e' with y | ⟨y1,y2,y3,y4⟩
    ·subst y
     rw [z1] at hp';cases hp'
     rw [q2] at e';cases e'
     exact ⟨rfl,by rw [← s2];exact q5,by rw [z3];exact q4,by rw [← s1,← q6,z2]⟩
    ·exact ⟨y1,by rw [← s2];exact q5,y3,by rw [← s1,← q6,← z2];exact y4⟩
  intro b b' p p' r d d' hp hp' e e'
  by_cases hn:(Hs i).next≤b∧b<(Hs (i+1)).next
  ·by_cases hn':(Hs i).next≤b'∧b'<(Hs (i+1)).next
   ·obtain ⟨_,p1,hp1⟩:=newAt (Nat.le_refl _) hp hn.1 hn.2
    obtain ⟨_,p1',hp1'⟩:=newAt (Nat.le_refl _) hp' hn'.1 hn'.2
    obtain ⟨s1,s2⟩:=G.same (show i+1≤ops.size by omega) (Nat.le_refl _) hp1 hp
    obtain ⟨s1',s2'⟩:=G.same (show i+1≤ops.size by omega) (Nat.le_refl _) hp1' hp'
    rw [← s1,← s2,← s1',← s2']
    exact hrel.inj b b' p1 p1' r d d' hp1 hp1' e e'
   ·exact .inr (key b b' p p' r d d' hp hp' e e' hn hn')
  ·by_cases hn':(Hs i).next≤b'∧b'<(Hs (i+1)).next
   ·obtain ⟨k1,k2,k3,k4⟩:=key b' b p' p r d' d hp' hp e' e hn' hn
    exact .inr ⟨k1.symm,k3,k2,k4.symm⟩
   ·rw [hrx.same b hn] at e
    rw [hrx.same b' hn'] at e'
    exact hI.inj b b' p p' r d d' hp hp' e e'
 ·rw [(tY A o.dst x).1];exact hI.tsz
 ·-- temporaries
  by_cases hd:o.dst=some t
  ·have hij:i<j:=(hs i hiN ⟨o,hi,hd⟩).2 (.inl rfl)
   rw [G.tmps (i:=i+1) j (by omega) hj (fun k h1 h2 ⟨ok,hok,hdk⟩=>by
    rcases (hs k (by omega) ⟨ok,hok,hdk⟩).1 h2 with e | hLk
    ·omega
    ·have:=hbf k hLk (by omega)
     rcases hsh.tmp i k ok o t hi hok hd (by omega) (.inr hdk) with q | q
     ·exact this.1 q
     ·exact this.2 q),has,BI]
   have hn:=(G.frame i (by omega)).1
   by_cases ht:t<(As i).n
   ·rw [if_pos ⟨hd,ht⟩,hd,Ib A x (by rw [hI.tsz,← hn];exact ht)];exact hv
   ·rw [if_neg (fun h=>ht h.2)]
    have:(As i).tm.get t=none:=(G.frame i (by omega)).2.2 t (by rw [← hn];exact Nat.le_of_not_lt ht)
    unfold getD';rw [this];exact .bad _
  ·rw [Hu A o.dst x hd]
   refine (hI.tmp j hj t fun k hk hw=>?_).mono hle
   have:=hs k hk hw
   have hne:k≠i:=fun e=>by subst e;obtain ⟨ok,h1,h2⟩:=hw;rw [hi] at h1;cases h1;exact hd h2
   exact ⟨fun h=>(this.1 h).elim (fun q=>absurd q hne) id,fun h=>this.2 (.inr h)⟩
 ·-- names not yet given
  have hki:k≠i:=fun e=>hnk (.inl e)
  have hout:¬ ((Hs i).next≤b∧b<(Hs (i+1)).next):=by
   intro h
   rcases Nat.lt_or_gt_of_ne hki with q | q
   ·have:=nx (show k+1≤i by omega) (show i≤ops.size by omega);omega
   ·have:=nx (show i+1≤k by omega) (show k≤ops.size by omega);omega
  rw [hrx.same b hout,hrx.cz b hout]
  exact hI.non k hk (fun h=>hnk (.inr h)) b h1 h2
 ·have l1:=nx (Nat.zero_le i) (show i≤ops.size by omega)
  have l2:=nx (show i+1≤ops.size by omega) (Nat.le_refl _)
  rw [hrx.same b (by omega)];exact hI.rx.same b hn
 ·rw [hrx.zs r (Nat.lt_of_lt_of_le hr hI.fr.size)];exact hI.rx.zs r hr
 ·by_cases hn:(Hs i).next≤b∧b<(Hs (i+1)).next
  ·rcases hrx.neu b r d hn.1 hn.2 e with q | ⟨b0,o0,o1,q1,q2,q3,q4,q5,q6⟩
   ·have:=hI.fr.size;exact .inl (by omega)
   ·obtain ⟨p,p1,p2,p3⟩:=G.fin (show i+1≤ops.size by omega) q3
    have l0:=(G.wfs i (by omega)).lt b0 o0 q1
    have l1:=nx (show i≤ops.size by omega) (Nat.le_refl _)
    by_cases hb0:b0<(Hs 0).next
    ·obtain ⟨z,hz⟩:=G.at (Nat.zero_le _) (show i≤ops.size by omega) q1 hb0
     obtain ⟨s1,s2⟩:=G.same (Nat.zero_le _) (show i≤ops.size by omega) hz q1
     rw [hI.rx.same b0 (by omega)] at q2
     exact .inr ⟨b0,z,p,hz,q2,p1,by rw [s2];exact q4,by rw [p3];exact q5,by rw [s1,p2];exact q6⟩
    ·rcases hI.rx.neu b0 r d (by omega) (by omega) q2 with y | ⟨b1,y0,y1,z1,z2,z3,z4,z5,z6⟩
     ·exact .inl y
     ·obtain ⟨s1,s2⟩:=G.same (show i≤ops.size by omega) (Nat.le_refl _) q1 z3
      exact .inr ⟨b1,y0,p,z1,z2,p1,z4,by rw [p3];exact q5,by rw [z6,← s1,p2];exact q6⟩
  ·rw [hrx.same b hn] at e
   exact hI.rx.neu b r d h1 h2 e
 ·have l1:=nx (Nat.zero_le i) (show i≤ops.size by omega)
  have l2:=nx (show i+1≤ops.size by omega) (Nat.le_refl _)
  rw [hrx.cz a (by omega)];exact hI.rx.cz a hn
 ·refine (hfr.keep r (Nat.lt_of_lt_of_le hr hI.fr.size) fun b p d hp e hw=>?_).trans (hI.fr.keep r hr hn)
  have l0:=(G.wfs i (by omega)).lt b p hp
  have l1:=nx (show i≤ops.size by omega) (Nat.le_refl _)
  by_cases hb0:b<(Hs 0).next
  ·obtain ⟨z,hz⟩:=G.at (Nat.zero_le _) (show i≤ops.size by omega) hp hb0
   obtain ⟨s1,s2⟩:=G.same (Nat.zero_le _) (show i≤ops.size by omega) hz hp
   rw [hI.rx.same b (by omega)] at e
   exact hn b z d hz e ⟨i,Nat.zero_le _,hiN,by rw [s1];exact hw⟩
  ·rcases hI.rx.neu b r d (by omega) (by omega) e with y | ⟨b1,y0,y1,z1,z2,z3,z4,z5,z6⟩
   ·omega
   ·obtain ⟨s1,s2⟩:=G.same (show i≤ops.size by omega) (Nat.le_refl _) hp z3
    exact hn b1 y0 d z1 z2 ⟨i,Nat.zero_le _,hiN,by rw [z6,← s1];exact hw⟩
end
end Go.Ev
/- Regions whose order is open, 4: the theorem. -/
namespace Go.Ev
open Go
variable {P:Program}
theorem ES.wk {H H':EH} {W W':Nat→Prop} (h:ES H H' W) (h1:∀ g,W g→W' g) (h2:∀ g,W' g→H'.low≤g):ES H H' W' :=
 ⟨h.next,h.low,h.old,fun b o hb hn=>h.keep b o hb fun q=>hn (h1 _ q),h.back,h.wf,h2,fun b o hb hn=>(h.neu b o hb hn).imp id (h1 _)⟩
theorem ES.lowTo {H H1:EH} {W:Nat→Prop} {n m:Nat} (h:ES (lowTo H n) H1 W) (h1:m≤H.low) (h2:m≤H1.low):ES H (lowTo H1 m) W :=
 ⟨h.next,h1,h.old,h.keep,h.back,⟨h.wf.lt,h.wf.root,h.wf.uniq,h.wf.gdom⟩,fun g hg=>Nat.le_trans h2 (h.wr g hg),h.neu⟩
theorem WF.lowTo {H:EH} (h:WF H) (n:Nat):WF (lowTo H n):=⟨h.lt,h.root,h.uniq,h.gdom⟩
theorem Rel.lowTo {R:Ren} {S:Nat→Prop} {H:EH} {w:World} (h:Rel R S H w) (n:Nat):Rel R S (lowTo H n) w:=⟨h.img,h.obj,h.inj,h.frz⟩
def Tf (f:FP) (g:Nat):Prop:=match f.hv with | 0=>g∈f.rd∨g∈f.wrs | _+1=>True
def Wf (f:FP) (g:Nat):Prop:=match f.hv with | 0=>g∈f.wrs | 1=>f.lo≤g | _+2=>True
theorem EL (x:Nat) (l:List Nat):MX x l=true↔x∈l:=by
 induction l with
 | nil=>exact ⟨fun h=>(by cases h),fun h=>by simp at h⟩
 | cons y l ih =>
  show cond (Nat.beq x y) true (MX x l)=true↔_
  rw [aH]
  by_cases e:x=y
  ·rw [if_pos e];simp [e]
  ·rw [if_neg e,ih];simp [e]
theorem AB {l m:List Nat} (h:Fb l m=true) {x:Nat} (h1:x∈l) (h2:x∈m):False:=by
 induction l with
 | nil=>simp at h1
 | cons y l ih =>
  have h:cond (MX y m) false (Fb l m)=true:=h
  cases e:MX y m with
  | true=>rw [e] at h;cases h
  | false =>
   rw [e] at h
   rcases List.mem_cons.1 h1 with q | q
   ·subst q;rw [(EL x m).2 h2] at e;cases e
   ·exact ih h q
theorem MO {lo hi:Nat} {l:List Nat} (h:PS lo hi l=true) {x:Nat} (h1:x∈l) (h2:lo≤x) (h3:x<hi):False:=by
 induction l with
 | nil=>simp at h1
 | cons y l ih =>
  have h:cond (Nat.ble lo y) (cond (Nat.blt y hi) false (PS lo hi l)) (PS lo hi l)=true:=h
  rw [bg,dB] at h
  rcases List.mem_cons.1 h1 with q | q
  ·subst q;rw [if_pos h2,if_pos h3] at h;cases h
  ·refine ih ?_ q
   split at h
   ·split at h
    ·cases h
    ·exact h
   ·exact h
theorem jE {l:List Nat} (h:lS l=true):l=[]:=by cases l with
 | nil=>rfl
 | cons x l=>cases h
theorem EQ {f g:FP} (h:yF f g=true):Fb f.wrs g.rd=true∧Fb f.wrs g.wrs=true∧PS g.lo g.hi f.wrs=true:=by
 unfold yF at h
 cases h1:Fb f.wrs g.rd<;>rw [h1] at h<;>try (cases h;done)
 cases h2:Fb f.wrs g.wrs<;>rw [h2] at h<;>try (cases h;done)
 exact ⟨rfl,rfl,h⟩
theorem pR {f k:FP} (h:idle f k=true):f.hv=0∧(f.lo=f.hi∨k.lo≤f.lo)∧f.rd=[]∧f.wrs=[]:=by
 unfold idle at h
 rw [aH,aH] at h
 split at h
 ·rename_i e1
  cases e2:(if f.lo=f.hi then true else Nat.ble k.lo f.lo) with
  | false=>rw [e2] at h;cases h
  | true =>
   rw [e2] at h
   have e2:f.lo=f.hi∨k.lo≤f.lo:=by
    split at e2
    ·rename_i q;exact .inl q
    ·exact .inr (Nat.le_of_ble_eq_true e2)
   have h:cond (lS f.rd) (lS f.wrs) false=true:=h
   cases e3:lS f.rd with
   | false=>rw [e3] at h;cases h
   | true=>rw [e3] at h;exact ⟨e1,e2,jE e3,jE h⟩
 ·cases h
theorem apart_spec {fi fk:FP} (h:ig fi fk=true∨ig fk fi=true∨(lT fi=false∧lT fk=false)) :
 (fk.hv=0→fi.hv=0→∀ g,g∈fk.wrs→(g∈fi.rd→False)∧(g∈fi.wrs→False)∧(fi.lo≤g→g<fi.hi→False)) ∧
 (fk.hv=0→fi.hv≠0→fk.wrs=[])∧(2≤fk.hv→fi.hv=0∧(fi.lo=fi.hi∨fk.lo≤fi.lo)∧fi.rd=[]∧fi.wrs=[]):=by
 have both:yF fk fi=true→∀ g,g∈fk.wrs→(g∈fi.rd→False)∧(g∈fi.wrs→False)∧(fi.lo≤g→g<fi.hi→False):=fun hc g hg=>by
  obtain ⟨a,b,c⟩:=EQ hc
  exact ⟨fun h=>AB a hg h,fun h=>AB b hg h,fun h1 h2=>MO c hg h1 h2⟩
 have quiet:∀ f:FP,lT f=false→f.hv≤1∧f.wrs=[]:=fun f h=>by
  unfold lT at h
  rw [bg] at h
  split at h
  ·rename_i e
   refine ⟨e,jE ?_⟩
   cases e:lS f.wrs with
   | true=>rfl
   | false=>rw [e] at h;cases h
  ·cases h
 refine ⟨fun ek ei=>?_,fun ek ei=>?_,fun ek=>?_⟩
 ·rcases h with h | h | ⟨_,h⟩
  ·unfold ig at h
   rw [ek,ei] at h
   simp only [cond_eq_ite] at h
   split at h
   ·exact both h
   ·cases h
  ·unfold ig at h
   rw [ek,ei] at h
   simp only [cond_eq_ite] at h
   split at h
   ·rename_i hc;exact both hc
   ·cases h
  ·rw [(quiet _ h).2];intro g hg;simp at hg
 ·rcases h with h | h | ⟨_,h⟩
  ·unfold ig at h
   rw [ek] at h
   match e:fi.hv,ei with
   | 1,_=>rw [e] at h;exact jE h
   | n+2,_=>rw [e] at h;exact (pR h).2.2.2
  ·unfold ig at h
   rw [ek] at h
   match e:fi.hv,ei with
   | 1,_=>rw [e] at h;exact jE h
   | n+2,_=>rw [e] at h;exact (pR h).2.2.2
  ·exact (quiet _ h).2
 ·obtain ⟨m,em⟩:∃ m,fk.hv=m+2:=⟨fk.hv-2,by omega⟩
  rcases h with h | h | ⟨_,h⟩
  ·unfold ig at h
   rw [em] at h
   match e:fi.hv with
   | 0=>rw [e] at h;exact (by have:=pR h;rw [e] at this;exact this)
   | 1=>rw [e] at h;cases h
   | n+2=>rw [e] at h;cases h
  ·unfold ig at h
   rw [em] at h
   match e:fi.hv with
   | 0=>rw [e] at h;exact (by have:=pR h;rw [e] at this;exact this)
   | 1=>rw [e] at h;cases h
   | n+2=>rw [e] at h;cases h
  ·have:=(quiet _ h).1;omega
theorem yf {fps:List FP} {f:FP} {l:List Nat} (h:jY fps f l=true):∀ j,j∈l→ig f (iZ fps j)=true:=by
 induction l with
 | nil=>intro j hj;simp at hj
 | cons y l ih =>
  intro j hj
  have h:cond (ig f (iZ fps y)) (jY fps f l) false=true:=h
  cases e:ig f (iZ fps y) with
  | false=>rw [e] at h;cases h
  | true =>
   rw [e] at h
   rcases List.mem_cons.1 hj with q | q
   ·subst q;exact e
   ·exact ih h j q
theorem ut {ops:Array Oper} {fps:List FP}:∀ (l:List FP) (i:Nat),jP ops fps l i=true→∀ m,m<l.length→lT (iZ l m)=true→∀ j,j∈qR ops (i+m)→ig (iZ l m) (iZ fps j)=true:=by
 intro l
 induction l with
 | nil=>intro i _ m hm;simp at hm
 | cons f l ih =>
  intro i h m hm hno j hj
  have h:cond (lT f) (cond (jY fps f (qR ops i)) (jP ops fps l (i+1)) false) (jP ops fps l (i+1))=true:=h
  cases m with
  | zero =>
   have hno:lT f=true:=hno
   rw [hno] at h
   cases e:jY fps f (qR ops i) with
   | false=>rw [e] at h;cases h
   | true=>exact yf e j hj
  | succ m =>
   refine ih (i+1) ?_ m (by simpa using hm) hno j (by rw [show i+1+m=i+(m+1) by omega];exact hj)
   cases e1:lT f<;>rw [e1] at h
   ·exact h
   ·cases e2:jY fps f (qR ops i)<;>rw [e2] at h
    ·cases h
    ·exact h
theorem DZ {ops:Array Oper} {i k:Nat} (hk:k<ops.size) (hne:i≠k) (h1:¬ Bf ops i k) (h2:¬ Bf ops k i):k∈qR ops i:=by
 unfold qR
 simp only [List.mem_filter,List.mem_range]
 refine ⟨hk,?_⟩
 unfold Bf at h1 h2
 by_cases h:k<i
 ·rw [if_pos h];simpa using h2
 ·rw [if_neg h,if_pos (by omega)];simpa using h1
theorem step_next {f:Task→Option Res} (hs:dQ P f) {ops:Array Oper} {o:Oper} {a a':EA} {H H':EH} {fp:FP} (h:StepAt P f ops o a H a' H' fp):H.next≤H'.next:=by
 cases h with
 | yes hw h=>exact (F9 hs h).1
 | no hw=>exact Nat.le_refl _
theorem Uc {f:Task→Option Res} {ops:Array Oper} {o:Oper} {a a':EA} {H H':EH} {fp:FP} (h:StepAt P f ops o a H a' H' fp):(fp.hv≠0→fp.lo=H.next)∧(H.next<H'.next→fp.lo=H.next∧fp.hi=H'.next):=by
 cases h with
 | yes hw h =>
  rename_i v H1
  show ((nR o.op a H H1 (qi o.op)).hv≠0→_)∧(_→_)
  have hk:(nR o.op a H H1 (qi o.op)).lo=H.next∧(nR o.op a H H1 (qi o.op)).hi=H1.next:=by
   cases qi o.op with
   | light=>unfold nR fpL;cases touch o.op<;>exact ⟨rfl,rfl⟩
   | heavy g args=>exact ⟨rfl,rfl⟩
  exact ⟨fun _=>hk.1,fun _=>hk⟩
 | no hw=>exact ⟨fun h=>absurd rfl h,fun h=>absurd h (Nat.lt_irrefl _)⟩
theorem KO {op:Op} {a:EA} {H H1:EH} {g:Nat} (h:WrS (qi op) (nR op a H H1 (qi op)) H1 g):Wf (nR op a H H1 (qi op)) g:=by
 cases hk:qi op with
 | light =>
  rw [hk] at h
  have h:g∈(fpL a H H1 (touch op)).wrs:=h
  show Wf (fpL a H H1 (touch op)) g
  have e:(fpL a H H1 (touch op)).hv=0:=by unfold fpL;cases touch op<;>rfl
  unfold Wf;rw [e];exact h
 | heavy x args =>
  rw [hk] at h
  have h:H1.low≤g:=h
  show Wf (fpH H H1) g
  unfold Wf fpH
  simp only [bg]
  by_cases e:H.next≤H1.low
  ·rw [if_pos e];exact Nat.le_trans e h
  ·rw [if_neg e];trivial
theorem O6 {op:Op} {a:EA} {H H1:EH} {g:Nat} (h:Tch (qi op) (nR op a H H1 (qi op)) g):Tf (nR op a H H1 (qi op)) g:=by
 cases hk:qi op with
 | light =>
  rw [hk] at h
  show Tf (fpL a H H1 (touch op)) g
  have e:(fpL a H H1 (touch op)).hv=0:=by unfold fpL;cases touch op<;>rfl
  unfold Tf;rw [e];exact h
 | heavy x args =>
  show Tf (fpH H H1) g
  unfold Tf fpH
  simp only [bg]
  by_cases e:H.next≤H1.low
  ·rw [if_pos e];trivial
  ·rw [if_neg e];trivial
end Go.Ev
/- Regions whose order is open: the evaluator is sound. -/
namespace Go.Ev
open Go
variable {P:Program}
theorem Fr.wk {R:Ren} {H:EH} {W W':Nat→Prop} {w w':World} (h:Fr R H W w w') (hs:∀ g,W g→W' g):Fr R H W' w w' :=
 ⟨h.os,h.tape,h.output,h.size,fun r hr hn=>h.keep r hr fun b o d ho hb hw=>hn b o d ho hb (hs _ hw)⟩
theorem UB {f:Task→Option Res} (hs:dQ P f) {ops:Array Oper} {o:Oper} {a a':EA} {H H':EH} {fp:FP} (h:StepAt P f ops o a H a' H' fp) {R:Ren} {w:World} {A:Act} (hr:Rel R All H w) (hw:WF H) (hf:Free R H H') (ha:AR R a A) :
 ∃ R' w' A',Rel R' All H' w'∧AR R' a' A'∧(∀ b,H'.next≤b→R'.bm b=R.bm b∧R'.cz b=R.cz b)∧ES H H' (fun g=>Wf fp g∧H'.low≤g):=by
 cases h with
 | yes hwt h =>
  rename_i v H1
  obtain ⟨R',w',x,W,h1,h2,h3⟩:=VK hs h (hr.lowTo big) (hw.lowTo big) hf ha
  have hle:R.le R':=h3.rx.le hf hr.img
  refine ⟨R',w',A.put o.dst x,?_,(ha.mono hle).put _ h1,fun b hb=>⟨h3.rx.same b (fun ⟨_,q⟩=>by have hb:H1.next≤b:=hb;omega),h3.rx.cz b (fun ⟨_,q⟩=>by have hb:H1.next≤b:=hb;omega)⟩,?_⟩
  ·exact Rel.lowTo (h3.rel.weak fun _ _ => .inl trivial) _
  ·have he:=ES.lowTo (m:=bW H.low H1.low) h3.es (by rw [gW];omega) (by rw [gW];omega)
   exact he.wk (fun g hg=>⟨KO (h2 g hg),he.wr g hg⟩) (fun g hg=>hg.2)
 | no hwt =>
  exact ⟨R,w,A.put o.dst undef,hr,ha.put _ (VR.skp R),fun b _=>⟨rfl,rfl⟩,(ES.refl hw).wk (fun g hg=>hg.elim) (fun g hg=>hg.2)⟩
theorem RF {f:Task→Option Res} (hs:dQ P f) {ops:Array Oper} {o:Oper} {a a':EA} {H H':EH} {fp:FP} (h:StepAt P f ops o a H a' H' fp) {R:Ren} {S:Nat→Prop} {w:World} {A:Act} (hr:Rel R S H w) (hw:WF H) (hf:Free R H H')
 (hρ:∀ x,x∈o.op.operands→VR R (a.eval x) (A.eval x)) (hg:∀ g w o' d,o.guard=some (g,w)→ops[g]?=some o'→o'.dst=some d→VR R (getD' a.tm d) (A.tmps.getD d undef)) (hS:∀ g,Tf fp g→S g)
 {n:Nat} {rr:Option Nat} {K:Act→World→Prop} {Q:Exit→Act→World→Prop}
 (hK:∀ R' w' v x,a'=a.put o.dst v→VR R' v x→RX R R' H H' w→Fr R H (fun g=>Wf fp g∧H'.low≤g) w w'→Rel R' (Up S H.next) H' w'→K (A.put o.dst x) w') :
 if Region.wanted o (yielded ops A.tmps) then o.wpIn (FF rr) n P A w K Q else (∀ f,o.about P w A.eval=some f→(FF rr).fn f)∧K (A.put o.dst undef) w:=by
 cases h with
 | yes hwt h =>
  rename_i v H1
  rw [if_pos (rH hg hwt)]
  refine Ky hs h R w A n rr S (hr.lowTo big) (hw.lowTo big) hf hρ (fun g ht=>hS g (O6 ht)) K Q fun R' w' x W h1 h2 h3=>?_
  refine hK R' w' v x rfl h1 ⟨h3.rx.same,h3.rx.zs,h3.rx.neu,h3.rx.cz,h3.rx.czn⟩ (Fr.wk (H:=H) (W:=W) ⟨h3.fr.os,h3.fr.tape,h3.fr.output,h3.fr.size,h3.fr.keep⟩ fun g hg=>⟨KO (h2 g hg),Nat.le_trans ?_ (h3.es.wr g hg)⟩) (Rel.lowTo h3.rel _)
  show bW H.low H1.low≤H1.low
  rw [gW];omega
 | no hwt =>
  rw [if_neg (by rw [vF hg hwt];simp)]
  exact ⟨fun f _=>rC rr f,hK R w skp undef rfl (VR.skp R) (.refl _ _ _) (.refl _ _ _ _) (Sim.refl hw hr).rel⟩
section
variable {ops:Array Oper} {As:Nat→EA} {Hs:Nat→EH} {fp:Nat→FP} {f:Task→Option Res}
def Wdd (Hs:Nat→EH) (fp:Nat→FP) (k g:Nat):Prop:=Wf (fp k) g∧(Hs (k+1)).low≤g
theorem Po (hs : dQ P f) (hst : ∀ k (h : k < ops.size), StepAt P f ops ops[k] (As k) (Hs k) (As (k + 1)) (Hs (k + 1)) (fp k)) {R0 : Ren} {w0 : World} {A0 : Act} (hr : Rel R0 All (Hs 0) w0) (hw : WF (Hs 0)) (hf : Free R0 (Hs 0) (Hs ops.size)) (ha : AR R0 (As 0) A0) :
    ∀ k, k ≤ ops.size → (∃ R w A, Rel R All (Hs k) w ∧ WF (Hs k) ∧ AR R (As k) A ∧ Free R (Hs k) (Hs ops.size)) ∧ ∀ m, m < k → ES (Hs m) (Hs (m + 1)) (Wdd Hs fp m) := by
  have mono : ∀ j, j ≤ ops.size → ∀ i, i ≤ j → (Hs i).next ≤ (Hs j).next := by
    intro j
    induction j with
    | zero => intro _ i hi; have : i = 0 := by omega
              subst this; exact Nat.le_refl _
    | succ j ih =>
      intro hj i hi
      by_cases e : i = j + 1
      · subst e; exact Nat.le_refl _
      · exact Nat.le_trans (ih (by omega) i (by omega)) (step_next hs (hst j hj))
  intro k
  induction k with
  | zero => intro _; exact ⟨⟨R0, w0, A0, hr, hw, ha, hf⟩, fun m hm => by omega⟩
  | succ k ih =>
    intro hk
    obtain ⟨⟨R, w, A, h1, h2, h3, h4⟩, h5⟩ := ih (by omega)
    obtain ⟨R', w', A', g1, g2, g3, g4⟩ := UB hs (hst k hk) h1 h2 (h4.less (mono ops.size (Nat.le_refl _) (k + 1) hk)) h3
    refine ⟨⟨R', w', A', g1, g4.wf, g2, fun b b1 b2 => ?_⟩, fun m hm => ?_⟩
    · rw [(g3 b b1).1, (g3 b b1).2]; exact h4 b (Nat.le_trans g4.next b1) b2
    · by_cases e : m = k
      · subst e; exact g4
      · exact h5 m (by omega)
theorem VM (hs:dQ P f) (hst:∀ k (h:k<ops.size),StepAt P f ops ops[k] (As k) (Hs k) (As (k+1)) (Hs (k+1)) (fp k)) {fp':Nat→FP} (hsame:∀ k,k<ops.size→(fp' k).lo=(fp k).lo∧(fp' k).hi=(fp k).hi∧(fp' k).wrs=(fp k).wrs∧(fp' k).hv=(fp k).hv) {fps:List FP} (hl:fps.length=ops.size) (hfp:∀ k,k<ops.size→iZ fps k=fp' k) (hp:jP ops fps fps 0=true)
 {R0:Ren} {w0:World} {A0:Act} (hr:Rel R0 All (Hs 0) w0) (hw:WF (Hs 0)) (hf:Free R0 (Hs 0) (Hs ops.size)) (ha:AR R0 (As 0) A0):Reg ops As Hs (fun i=>Tf (fp' i)) (Wdd Hs fp):=by
 have tr:=Po hs hst hr hw hf ha
 have sfp:∀ k (hk:k<ops.size),((fp' k).hv≠0→(fp' k).lo=(Hs k).next)∧((Hs k).next<(Hs (k+1)).next→(fp' k).lo=(Hs k).next∧(fp' k).hi=(Hs (k+1)).next):=fun k hk=>by
  obtain ⟨s1,s2,_,s4⟩:=hsame k hk
  rw [s1,s2,s4]
  exact Uc (hst k hk)
 have wsame:∀ k g,k<ops.size→Wf (fp k) g→Wf (fp' k) g:=fun k g hk h=>by
  obtain ⟨s1,s2,s3,s4⟩:=hsame k hk
  unfold Wf at h ⊢
  rw [s1,s3,s4];exact h
 have pair:∀ i k,i<ops.size→k<ops.size→i≠k→¬ Bf ops i k→¬ Bf ops k i→ig (fp' i) (fp' k)=true∨ig (fp' k) (fp' i)=true∨(lT (fp' i)=false∧lT (fp' k)=false):=fun i k hi hk hne b1 b2=>by
  by_cases n1:lT (fp' i)=true
  ·have:=ut fps 0 hp i (by rw [hl];exact hi) (by rw [hfp i hi];exact n1) k (by rw [Nat.zero_add];exact DZ hk hne b1 b2)
   rw [hfp i hi,hfp k hk] at this
   exact .inl this
  ·by_cases n2:lT (fp' k)=true
   ·have:=ut fps 0 hp k (by rw [hl];exact hk) (by rw [hfp k hk];exact n2) i (by rw [Nat.zero_add];exact DZ hi (Ne.symm hne) b2 b1)
    rw [hfp i hi,hfp k hk] at this
    exact .inr (.inl this)
   ·exact .inr (.inr ⟨by simpa using n1,by simpa using n2⟩)
 refine ⟨fun k hk=>(tr ops.size (Nat.le_refl _)).2 k hk,hw,fun i k hi hk hne b1 b2 g hg hwd ht=>?_,fun i k hi hk hne b1 b2 g hg hwd h1 h2=>?_,fun i g hi hg hwd=>?_,fun i o ho=>?_,fun i hi=>ha.tm.out i hi⟩
 ·obtain ⟨p1,p2,p3⟩:=apart_spec (pair i k hi hk hne b1 b2)
  have hwf:=wsame _ _ (by omega) hwd.1
  unfold Wf at hwf
  unfold Tf at ht
  match ek:(fp' k).hv with
  | 0 =>
   rw [ek] at hwf
   match ei:(fp' i).hv with
   | 0 =>
    rw [ei] at ht
    obtain ⟨q1,q2,_⟩:=p1 ek ei g hwf
    exact ht.elim q1 q2
   | n+1 =>
    have hwf:g∈(fp' k).wrs:=hwf
    rw [p2 ek (by omega)] at hwf;simp at hwf
  | 1 =>
   rw [ek] at hwf
   have hwf:(fp' k).lo≤g:=hwf
   rw [(sfp k hk).1 (by omega)] at hwf;omega
  | n+2 =>
   obtain ⟨q1,q2,q3,q4⟩:=p3 (by omega)
   rw [q1,q3,q4] at ht
   simp at ht
 ·obtain ⟨p1,p2,p3⟩:=apart_spec (pair i k hi hk hne b1 b2)
  obtain ⟨l1,l2⟩:=(sfp i hi).2 (by omega)
  have hwf:=wsame _ _ (by omega) hwd.1
  unfold Wf at hwf
  match ek:(fp' k).hv with
  | 0 =>
   rw [ek] at hwf
   match ei:(fp' i).hv with
   | 0=>exact (p1 ek ei g hwf).2.2 (by omega) (by omega)
   | n+1 =>
    have hwf:g∈(fp' k).wrs:=hwf
    rw [p2 ek (by omega)] at hwf;simp at hwf
  | 1 =>
   rw [ek] at hwf
   have hwf:(fp' k).lo≤g:=hwf
   rw [(sfp k hk).1 (by omega)] at hwf;omega
  | n+2 =>
   obtain ⟨q1,q2,q3,q4⟩:=p3 (by omega)
   have:=(sfp k hk).1 (by omega)
   omega
 ·have hwf:=wsame _ _ (by omega) hwd.1
  unfold Wf at hwf
  show Tf (fp' i) g
  unfold Tf
  match ei:(fp' i).hv with
  | 0=>rw [ei] at hwf;exact .inr hwf
  | n+1=>trivial
 ·have hi:i<ops.size:=(Array.getElem?_eq_some_iff.1 ho).1
  have e:ops[i]=o:=(Array.getElem?_eq_some_iff.1 ho).2
  have:=hst i hi
  rw [e] at this
  generalize As (i+1)=a' at this ⊢
  generalize Hs (i+1)=H' at this
  generalize fp i=fpi at this
  cases this with
  | yes _ _=>exact ⟨_,rfl⟩
  | no _=>exact ⟨_,rfl⟩
def DN (P:Program) (o:Oper) (a:EA) (r:Nat) (v:V) (H:EH):Prop :=
 (∃ t x k,o.op = .lookup t x k false∧a.eval x = .map r∧dF P t (a.eval x) (a.eval k) false H=some (v,H))∨(∃ t x b off,o.op = .load t x∧a.eval x = .ptr b off∧H.loadVar P t b off=some v∧mf H b=[r])
def Ip (P:Program) (ops:Array Oper) (As:Nat→EA) (Hs:Nat→EH) (fp:Nat→FP) (i:Nat):Prop:=∃ j o r v,ops[i]?=some o∧o.guard=none∧i≠j∧j<ops.size ∧
 (∀ m,m<ops.size→m≠j→Wf (fp m) r→(m<i∧m<j∧Bf ops m i)∨(j<m∧i<m∧Bf ops i m))∧DN P o (As i) r v (Hs i)∧DN P o (As i) r v (Hs (lL i j))
theorem Aq {i j:Nat} (h:i<j):lL i j=j+1:=by unfold lL;rw [dB,if_pos h]
theorem zV {i j:Nat} (h:¬ i<j):lL i j=j:=by unfold lL;rw [dB,if_neg h]
theorem EP {o:Oper} {t:TypeId} {x k:Operand} {b:Bool} (h:o.op = .lookup t x k b) (ρ:Operand→Value):execOp ρ o=(do pure (Next.value (← Instr.lookup t (ρ x) (ρ k) b))):=by
 obtain ⟨d,op,t',p,af,g⟩:=o
 have h:op = .lookup t x k b:=h
 subst h;rfl
theorem PH {t:TypeId} {x k:V} {H H':EH} {v:V} (h:dF P t x k false H=some (v,H')):H'=H:=by
 unfold dF at h
 split at h
 ·split at h
  ·rename_i es _ z _ _
   rename_i key _ _ _
   simp only [cond_eq_ite] at h
   split at h
   ·unfold mX at h
    split at h<;>cases h<;>rfl
   ·cases h
  ·cases h
 ·cases h
theorem IL {t:TypeId} {x k:V} {H:EH} {v:V} (h:dF P t x k false H=some (v,H)) (n:Nat):dF P t x k false (lowTo H n)=some (v,lowTo H n):=by
 unfold dF at h ⊢
 split at h
 ·rename_i key elem r hu
  show (match H.objs.get r,lY P elem with | some (.map es _),some z=>cond (wC P key k) (mX z false (lowTo H n) (gu P key k es 0)) none | _,_=>none)=_
  split at h
  ·rename_i es c z h1 h2
   rw [h1,h2]
   simp only
   cases hk:wC P key k with
   | false=>rw [hk] at h;cases h
   | true =>
    rw [hk] at h
    have h:mX z false H (gu P key k es 0)=some (v,H):=h
    show mX z false (lowTo H n) (gu P key k es 0)=_
    unfold mX at h ⊢
    split at h<;>cases h<;>rfl
  ·cases h
 ·cases h
theorem wK {R:Ren} {S:Nat→Prop} {w:World} {o:Oper} {a:EA} {A:Act} {r:Nat} {v:V} {H:EH} (h:DN P o a r v H) (hr:Rel R S H w) (hρ:∀ y,y∈o.op.operands→VR R (a.eval y) (A.eval y)) (hS:S r):∃ y,(execOp A.eval o).run P w = .ok (.value y) w∧VR R v y:=by
 rcases h with ⟨t,x,k,hop,hm,hl⟩ | ⟨t,x,b,off,hop,hm,hl,hg⟩
 ·have hvx:=hρ x (by rw [hop];simp [Op.operands])
  have hvk:=hρ k (by rw [hop];simp [Op.operands])
  rw [hm] at hvx hl
  obtain ⟨_,y,q1,q2⟩:=vz hr hvx hvk hl fun g hg=>by
   have:g=r:=by simpa [dM] using hg
   subst this;exact hS
  exact ⟨y,by rw [EP hop A.eval,run_bind_ok q1];rfl,q2⟩
 ·have hvx:=hρ x (by rw [hop];simp [Op.operands])
  rw [hm] at hvx
  generalize hz:A.eval x=z at hvx
  cases hvx with
  | ptr q1 q2 =>
   obtain ⟨y,g1,g2⟩:=oL (P:=P) hr hl q1 q2 fun g hg'=>by
    rw [hg] at hg'
    have:=List.mem_singleton.1 hg'
    subst this;exact hS
   refine ⟨y,?_,g2⟩
   obtain ⟨d,op,t',p,af,g⟩:=o
   have hop:op = .load t x:=hop
   subst hop
   show (Instr.loadAt t (A.eval x) >>= fun v=>pure (Next.value v)).run P w=_
   rw [hz]
   rw [run_bind_ok (show (Instr.loadAt t (.pointer (some _))).run P w = .ok y w from g1)]
   rfl
theorem TT {f:Task→Option Res} {o:Oper} {a:EA} {r:Nat} {v:V} {H:EH} (h:DN P o a r v H) (n:Nat):mV P f a (lowTo H n) o.op=some (v,lowTo H n):=by
 rcases h with ⟨t,x,k,hop,hm,hl⟩ | ⟨t,x,b,off,hop,hm,hl,hg⟩
 ·rw [hop]
  show dF P t (a.eval x) (a.eval k) false (lowTo H n)=_
  exact IL hl n
 ·rw [hop]
  show uI P t (a.eval x) (lowTo H n)=_
  rw [hm]
  show iI (lowTo H n) (H.loadVar P t b off)=_
  rw [hl];rfl
theorem Rel.up {R:Ren} {S:Nat→Prop} {H:EH} {w:World} {n0:Nat} (h:Rel R S H w) (hw:∀ b o,H.objs.get b=some o→aG b o<n0):Rel R (Up S n0) H w:=⟨h.img,fun b o r d ho hb=>(h.obj b o r d ho hb).mono (.refl _) hb rfl (fun s=>s.elim id fun q=>absurd (hw b o ho) (by omega)) id,h.inj,h.frz⟩
theorem Oq (hs:dQ P f) (hst:∀ k (h:k<ops.size),StepAt P f ops ops[k] (As k) (Hs k) (As (k+1)) (Hs (k+1)) (fp k)) (hsh:Shape ops) {R0:Ren} {w0:World} {A0:Act} {fp':Nat→FP} (G:Reg ops As Hs (fun i=>Tf (fp' i)) (Wdd Hs fp)) (hsoft:∀ i,i<ops.size→fp' i=fp i∨Ip P ops As Hs fp i)
 {n:Nat} {rr:Option Nat} {Q:Exit→Act→World→Prop} (hQ:∀ (L:Nat→Prop) R A w,(∀ k,k<ops.size→L k)→Inv ops As Hs (Wdd Hs fp) R0 w0 A0 L R A w→Q .normal A w) :
 ∀ (fuel:Nat) (listed:Array Bool) R A w,listed.size=ops.size→listed.toList.count false=fuel→Inv ops As Hs (Wdd Hs fp) R0 w0 A0 (fun k=>listed[k]?=some true) R A w→wpAnyIn (FF rr) n P .any ops Q fuel listed A w:=by
 have full:∀ (listed:Array Bool),listed.size=ops.size→Region.ready .any ops listed=[]→∀ k,k<ops.size→listed[k]?=some true:=by
  intro listed hsz hnil k
  induction k using Nat.strongRecOn with
  | ind k ih =>
   intro hk
   apply Classical.byContradiction
   intro hn
   have:k∈Region.ready .any ops listed:=by
    rw [mem_ready]
    refine ⟨?_,_,Array.getElem?_eq_getElem hk,fun e he hb=>?_⟩
    ·rw [Array.getD_eq_getD_getElem?]
     rw [Array.getElem?_eq_getElem (by omega)] at hn ⊢
     simpa using hn
    ·have hlt:=hsh.back k _ (Array.getElem?_eq_getElem hk) e he hb
     rw [Array.getD_eq_getD_getElem?,ih e.on hlt (by omega)];rfl
   rw [hnil] at this;cases this
 intro fuel
 induction fuel with
 | zero =>
  intro listed R A w hsz hc hI
  have hall:∀ k,k<ops.size→listed[k]?=some true:=fun k hk=>by
   have h:=List.count_eq_zero.1 hc
   rw [Array.getElem?_eq_getElem (by omega)]
   cases e:listed[k]'(by omega) with
   | true=>rfl
   | false=>exact (h (by rw [← e];exact Array.mem_toList_iff.2 (Array.getElem_mem _))).elim
  refine ⟨?_,hQ _ R A w hall hI⟩
  cases hrd:Region.ready .any ops listed with
  | nil=>rfl
  | cons k l =>
   have:k∈Region.ready .any ops listed:=by rw [hrd];simp
   rw [mem_ready] at this
   obtain ⟨h0,o,ho,_⟩:=this
   rw [Array.getD_eq_getD_getElem?,hall k (Array.getElem?_eq_some_iff.1 ho).1] at h0
   cases h0
 | succ fuel ih =>
  intro listed R A w hsz hc hI
  refine ⟨fun hnil=>hQ _ R A w (full listed hsz hnil) hI,fun i hi=>?_⟩
  rw [mem_ready] at hi
  obtain ⟨h0,o,ho,hpre⟩:=hi
  have hiN:i<ops.size:=(Array.getElem?_eq_some_iff.1 ho).1
  have eo:ops[i]=o:=(Array.getElem?_eq_some_iff.1 ho).2
  have hLi:listed[i]?=some false:=by
   rw [Array.getD_eq_getD_getElem?] at h0
   rw [Array.getElem?_eq_getElem (by omega)] at h0 ⊢
   simpa using h0
  have hL:¬ listed[i]?=some true:=by rw [hLi];simp
  have hdir:∀ e∈o.after,Region.binds .any e=true→listed[e.on]?=some true:=fun e he hb=>by
   have:=hpre e he hb
   rw [Array.getD_eq_getD_getElem?] at this
   cases e':listed[e.on]? with
   | none=>rw [e'] at this;cases this
   | some y=>rw [e'] at this;simp at this;rw [this]
  have hall:∀ k,Bf ops k i→listed[k]?=some true:=fun k hb=>by
   obtain ⟨o',e,q1,q2,q3,_,q5⟩:=Dv hsh.back hb
   rw [ho] at q1;cases q1
   have:=hdir e q2 q3
   rcases q5 with q | q
   ·rw [← q];exact this
   ·exact hI.closed.bf hsh.back _ this q
  have hcl:Closed ops (fun k=>k=i∨listed[k]?=some true):=fun j oj hj hoj e he hb=>by
   rcases hj with rfl | hj
   ·rw [ho] at hoj;cases hoj;exact .inr (hdir e he hb)
   ·exact .inr (hI.closed j oj hj hoj e he hb)
  have sync:∀ t,t∈tmpsOf ops o→∀ k,k<ops.size→Wr ops k t→(k<i↔listed[k]?=some true):=fun t ht k hk ⟨ok,hok,hd⟩=>by
   by_cases e:k=i
   ·subst e;exact ⟨fun h=>absurd h (Nat.lt_irrefl _),fun h=>absurd h hL⟩
   ·rcases hsh.tmp k i o ok t hok ho hd e (.inl ht) with q | q
    ·exact ⟨fun _=>hall k q,fun _=>FH hsh.back _ q⟩
    ·have:=FH hsh.back _ q
     exact ⟨fun h=>by omega,fun h=>absurd (hI.closed.bf hsh.back k h q) hL⟩
  have tv:∀ t,t∈tmpsOf ops o→VR R (getD' (As i).tm t) (A.tmps.getD t undef):=fun t ht=>hI.tmp i (by omega) t (sync t ht)
  have hsti:=hst i hiN
  rw [eo] at hsti
  unfold wpOpIn
  simp only [ho]
  have hK:∀ R' w' v x,As (i+1)=(As i).put o.dst v→VR R' v x→RX R R' (Hs i) (Hs (i+1)) w→Fr R (Hs i) (fun g=>Wf (fp i) g∧(Hs (i+1)).low≤g) w w'→Rel R' (Up (Sy ops Hs (Wdd Hs fp) (fun k=>listed[k]?=some true) i) (Hs i).next) (Hs (i+1)) w'→wpAnyIn (FF rr) n P .any ops Q fuel (listed.setIfInBounds i true) (A.put o.dst x) w':=fun R' w' v x has hv hrx hfr hrel=>by
   refine ih (listed.setIfInBounds i true) R' _ w' (by simpa using hsz) ?_ ?_
   ·rw [Array.toList_setIfInBounds,List.count_set (by simp;omega)]
    have:listed.toList[i]'(by simp;omega)=false:=by
     have:=(Array.getElem?_eq_some_iff.1 hLi).2
     simpa using this
    rw [this,hc]
    simp
   ·have:=Qj G hsh hI ho hL hall hcl hrx hfr hrel hv has
    have e:(fun k=>(listed.setIfInBounds i true)[k]?=some true)=(fun k=>k=i∨listed[k]?=some true):=by
     funext k
     apply propext
     rw [Array.getElem?_setIfInBounds]
     by_cases e:i=k
     ·subst e
      rw [if_pos rfl,if_pos (by omega)]
      exact ⟨fun _ => .inl rfl,fun _=>rfl⟩
     ·rw [if_neg e]
      exact ⟨fun h => .inr h,fun h=>h.elim (fun q=>absurd q.symm e) id⟩
    rw [e];exact this
  rcases hsoft i hiN with hfe | hso
  ·refine RF hs hsti (hI.rel G (by omega)) (G.wfs i (by omega)) (hI.non i hiN hL) (fun x hx=>?_) (fun g wnt o' d hg ho' hd=>?_) (fun g ht=>GV G hsh hI.closed hiN hL hall (by show Tf (fp' i) g;rw [hfe];exact ht)) hK
   ·cases x with
    | tmp t=>exact tv t (List.mem_append_left _ (List.mem_filterMap.2 ⟨.tmp t,by simpa using hx,rfl⟩))
    | const v=>exact VR.ofC R v
    | global g=>exact .bad _
    | func g=>exact .func rfl (fun i h1 _=>by simp at h1) rfl (fun i h1 _=>by simp at h1)
   ·refine tv d (List.mem_append_right _ ?_)
    rw [hg];simp [ho',hd]
  ·obtain ⟨j,o',r,v,ho',hgd,hij,hjN,hwr,hv1,hv2⟩:=hso
   rw [ho] at ho';cases ho'
   have hρ:∀ y,y∈o.op.operands→VR R ((As i).eval y) (A.eval y):=fun y hy=>by
    cases y with
    | tmp t=>exact tv t (List.mem_append_left _ (List.mem_filterMap.2 ⟨.tmp t,by simpa using hy,rfl⟩))
    | const v=>exact VR.ofC R v
    | global g=>exact .bad _
    | func g=>exact .func rfl (fun i h1 _=>by simp at h1) rfl (fun i h1 _=>by simp at h1)
   have nlt:∀ m,Bf ops i m→¬ listed[m]?=some true:=fun m hb h=>hL (hI.closed.bf hsh.back m h hb)
   -- the op gives v in the world as it is
   have hpr:∃ y,(execOp A.eval o).run P w = .ok (.value y) w∧VR R v y:=by
    by_cases hlt:i<j
    ·rw [Aq hlt] at hv2
     by_cases hLj:listed[j]?=some true
     ·refine wK hv2 (hI.rel G (i:=j+1) (by omega)) hρ ?_
      intro m hm hmn hmw
      by_cases e:m=j
      ·subst e;exact ⟨fun _=>hLj,fun _=>Nat.lt_succ_self _⟩
      ·rcases hwr m hm e hmw.1 with ⟨q1,q3,q2⟩ | ⟨q1,q3,q2⟩
       ·exact ⟨fun _=>hall m q2,fun _=>by omega⟩
       ·exact ⟨fun h=>by omega,fun h=>absurd h (nlt m q2)⟩
     ·refine wK hv1 (hI.rel G (i:=i) (by omega)) hρ ?_
      intro m hm hmn hmw
      by_cases e:m=j
      ·subst e;exact ⟨fun h=>by omega,fun h=>absurd h hLj⟩
      ·rcases hwr m hm e hmw.1 with ⟨q1,q3,q2⟩ | ⟨q1,q3,q2⟩
       ·exact ⟨fun _=>hall m q2,fun _=>q1⟩
       ·exact ⟨fun h=>by omega,fun h=>absurd h (nlt m q2)⟩
    ·rw [zV hlt] at hv2
     by_cases hLj:listed[j]?=some true
     ·refine wK hv1 (hI.rel G (i:=i) (by omega)) hρ ?_
      intro m hm hmn hmw
      by_cases e:m=j
      ·subst e;exact ⟨fun _=>hLj,fun _=>by omega⟩
      ·rcases hwr m hm e hmw.1 with ⟨q1,q3,q2⟩ | ⟨q1,q3,q2⟩
       ·exact ⟨fun _=>hall m q2,fun _=>q1⟩
       ·exact ⟨fun h=>by omega,fun h=>absurd h (nlt m q2)⟩
     ·refine wK hv2 (hI.rel G (i:=j) (by omega)) hρ ?_
      intro m hm hmn hmw
      by_cases e:m=j
      ·subst e;exact ⟨fun h=>absurd h (Nat.lt_irrefl _),fun h=>absurd h hLj⟩
      ·rcases hwr m hm e hmw.1 with ⟨q1,q3,q2⟩ | ⟨q1,q3,q2⟩
       ·exact ⟨fun _=>hall m q2,fun _=>q3⟩
       ·exact ⟨fun h=>by omega,fun h=>absurd h (nlt m q2)⟩
   obtain ⟨y,hy1,hy2⟩:=hpr
   have hnd:∀ c,o.op ≠ .defer c:=fun c e=>by
    rcases hv1 with ⟨_,_,_,q,_⟩ | ⟨_,_,_,_,q,_⟩<;>(rw [q] at e;cases e)
   have hstep:As (i+1)=(As i).put o.dst v∧∃ n1 n2,Hs (i+1)=lowTo (lowTo (Hs i) n1) n2:=by
    generalize As (i+1)=a' at hsti ⊢
    generalize Hs (i+1)=H' at hsti ⊢
    generalize fp i=f0 at hsti
    cases hsti with
    | yes hw h =>
     rename_i v0 H1
     have h:mV P f (As i) (lowTo (Hs i) big) o.op=some (v0,H1):=h
     rw [TT hv1 big] at h
     cases h
     exact ⟨rfl,_,_,rfl⟩
    | no hw=>unfold dH at hw;rw [hgd] at hw;cases hw
   obtain ⟨n1,n2,hH⟩:=hstep.2
   have hwant:Region.wanted o (yielded ops A.tmps)=true:=by unfold Region.wanted;rw [hgd]
   rw [if_pos hwant]
   have hnx:(Hs (i+1)).next=(Hs i).next:=by rw [hH];rfl
   refine Gs hnd hy1 (hK R w v y hstep.1 hy2 ⟨fun _ _=>rfl,fun _ _=>rfl,fun b _ _ h1 h2 _=>absurd h1 (by omega),fun _ _=>rfl,fun _ _ _ e => .inl e⟩ (Fr.refl _ _ _ _) ?_)
   have hrel:=hI.rel G (i:=i) (by omega)
   rw [hH]
   exact Rel.up ((hrel.lowTo n1).lowTo n2) fun b o e=>Nat.lt_of_le_of_lt ((G.wfs i (by omega)).root b o e) ((G.wfs i (by omega)).lt b o e)
end
theorem Ub {f:FP} {r:Nat} (h:Wf f r):VX r f=true:=by
 unfold Wf at h
 unfold VX
 split at h
 ·rename_i e;rw [e];exact (EL _ _).2 h
 ·rename_i e;rw [e];exact Nat.ble_eq_true_of_le h
 ·rename_i n e;rw [e];rfl
theorem FO {p:Nat→Bool}:∀ {n:Nat},Ue p n=true→∃ i,i<n∧p i=true:=by
 intro n
 induction n with
 | zero=>intro h;cases h
 | succ n ih =>
  intro h
  have h:cond (p n) true (Ue p n)=true:=h
  cases hp:p n with
  | true=>exact ⟨n,Nat.lt_succ_self _,hp⟩
  | false=>rw [hp] at h;obtain ⟨i,h1,h2⟩:=ih h;exact ⟨i,by omega,h2⟩
theorem Jm {ops:Array Oper} {As:Nat→EA} {Hs:Nat→EH} {fps:List FP} {fp:Nat→FP} {st:List (EA×EH)} (hfp:∀ k,k<ops.size→iZ fps k=fp k) (hst:∀ k,k≤ops.size→st[k]?=some (As k,Hs k)) {i:Nat} (hi:i<ops.size) (h:ve P ops fps st i ops[i]? (lM st i)=true):Ip P ops As Hs fp i:=by
 rw [fB,hst i (by omega)] at h
 have ho:ops[i]?=some ops[i]:=Array.getElem?_eq_getElem hi
 rw [ho] at h
 have chk:∀ {j r:Nat},wX ops fps i j r=true→j<ops.size→i≠j∧∀ m,m<ops.size→m≠j→Wf (fp m) r→(m<i∧m<j∧Bf ops m i)∨(j<m∧i<m∧Bf ops i m):=fun {j r} h1 hj=>by
  unfold wX at h1
  rw [aH] at h1
  split at h1
  ·cases h1
  ·rename_i c1
   obtain ⟨c2,h1⟩:=ax h1
   refine ⟨c1,fun m hm' hne hw=>?_⟩
   have:=aQ h1 m hm'
   rw [aH,if_neg hne] at this
   rw [hfp m hm',Ub hw] at this
   simp only [cond_true,dB] at this
   split at this
   ·rename_i q
    split at this
    ·rename_i q';exact .inl ⟨q,q',this⟩
    ·cases this
   ·split at this
    ·rename_i q
     split at this
     ·rename_i q';exact .inr ⟨q,q',this⟩
     ·cases this
    ·cases this
 have hos:∀ {j:Nat},j<ops.size→lL i j≤ops.size:=fun {j} hj=>by
  by_cases q:i<j
  ·rw [Aq q];omega
  ·rw [zV q];omega
 unfold ve at h
 simp only at h
 split at h
 ·rename_i t x k hop
  obtain ⟨hg,h⟩:=ax h
  unfold Vr at h
  split at h
  ·rename_i r hm
   obtain ⟨j,hj,h⟩:=FO h
   unfold Vf at h
   obtain ⟨h1,h2⟩:=ax h
   obtain ⟨c1,c2⟩:=chk h1 hj
   unfold JR at h2
   rw [fB,hst (lL i j) (hos hj)] at h2
   simp only at h2
   unfold Uz at h2
   split at h2
   ·rename_i v v' e1 e2
    have:=jW h2
    subst this
    have lk:∀ {H:EH},lkV (dF P t (V.map r) ((As i).eval k) false H)=some v→dF P t (V.map r) ((As i).eval k) false H=some (v,H):=fun {H} e=>by
     cases hh:dF P t (V.map r) ((As i).eval k) false H with
     | none=>rw [hh] at e;cases e
     | some p =>
      obtain ⟨v0,H0⟩:=p
      rw [hh] at e
      have:=PH hh
      subst this
      cases e;rfl
    exact ⟨j,_,r,v,ho,kH hg,c1,hj,c2,.inl ⟨t,x,k,hop,hm,by rw [hm] at e1 ⊢;exact lk e1⟩,.inl ⟨t,x,k,hop,hm,by rw [hm] at e2 ⊢;exact lk e2⟩⟩
   ·cases h2
  ·cases h
 ·rename_i t x hop
  obtain ⟨hg,h⟩:=ax h
  unfold Vt at h
  split at h
  ·rename_i b off hm
   unfold Vq at h
   split at h
   ·rename_i g hgr
    obtain ⟨j,hj,h⟩:=FO h
    unfold RV at h
    obtain ⟨h1,h2⟩:=ax h
    obtain ⟨c1,c2⟩:=chk h1 hj
    unfold FD at h2
    rw [fB,hst (lL i j) (hos hj)] at h2
    simp only at h2
    obtain ⟨h2,h3⟩:=ax h2
    obtain ⟨_,h4⟩:=ax h3
    unfold Uz at h2
    split at h2
    ·rename_i v v' e1 e2
     have:=jW h2
     subst this
     unfold isG at h4
     split at h4
     ·rename_i y hy
      have:=nb h4
      subst this
      exact ⟨j,_,y,v,ho,kH hg,c1,hj,c2,.inr ⟨t,x,b,off,hop,hm,e1,hgr⟩,.inr ⟨t,x,b,off,hop,hm,e2,hy⟩⟩
     ·cases h4
    ·cases h2
   ·cases h
  ·cases h
 ·cases h
theorem Eo (ops:Array Oper) (fps:List FP) (st:List (EA×EH)):∀ (l:List FP) (i k:Nat),k<l.length→iZ (jS P ops fps st l i) k=if ve P ops fps st (i+k) ops[i+k]? (lM st (i+k))=true then ⟨(iZ l k).lo,(iZ l k).hi,[],(iZ l k).wrs,(iZ l k).hv⟩ else iZ l k:=by
 intro l
 induction l with
 | nil=>intro i k h;simp at h
 | cons f l ih =>
  intro i k h
  cases k with
  | zero =>
   show (cond (ve P ops fps st i ops[i]? (lM st i)) (⟨f.lo,f.hi,[],f.wrs,f.hv⟩:FP) f)=if ve P ops fps st (i+0) _ _=true then (⟨f.lo,f.hi,[],f.wrs,f.hv⟩:FP) else f
   rw [Nat.add_zero]
   cases ve P ops fps st i ops[i]? (lM st i)<;>rfl
  | succ k =>
   have:=ih (i+1) k (by simpa using h)
   rw [show i+1+k=i+(k+1) by omega] at this
   exact this
theorem vJ (ops:Array Oper) (fps:List FP) (st:List (EA×EH)):∀ (l:List FP) (i:Nat),(jS P ops fps st l i).length=l.length
 | [],_=>rfl
 | f::l,i=>by show (jS P ops fps st l (i+1)).length+1=_;rw [vJ ops fps st l];rfl
theorem vU (hm:P.follows .mixedOrders=true):aN P:=by
 intro f hs ops a H res hshape h
 have hsh:=PP hshape
 unfold doneD at h
 split at h
 ·rename_i r hr
  obtain ⟨As,Hs,fp,e1,e2,e3,e4,e5,e6,e8,e7⟩:=Je _ _ _ _ hr
  rw [Array.length_toList] at e3 e4 e5
  have e6:∀ k,k<ops.size→iZ r.fps k=fp k:=fun k hk=>e6 k (by simpa using hk)
  have e8:∀ k,k≤ops.size→r.st[k]?=some (As k,Hs k):=fun k hk=>e8 k (by simpa using hk)
  have hpick:∃ fps,fps.length=ops.size∧jP ops fps fps 0=true∧res = .normal r.a r.H∧∃ fp':Nat→FP,(∀ k,k<ops.size→(fp' k).lo=(fp k).lo∧(fp' k).hi=(fp k).hi∧(fp' k).wrs=(fp k).wrs∧(fp' k).hv=(fp k).hv)∧(∀ k,k<ops.size→iZ fps k=fp' k)∧∀ i,i<ops.size→fp' i=fp i∨Ip P ops As Hs fp i:=by
   cases hp:jP ops r.fps r.fps 0 with
   | true =>
    rw [hp] at h
    have h:some (Res.normal r.a r.H)=some res:=h
    cases h
    exact ⟨r.fps,e5,hp,rfl,fp,fun k _=>⟨rfl,rfl,rfl,rfl⟩,e6,fun i _ => .inl rfl⟩
   | false =>
    rw [hp] at h
    have h:Jp ops r (jS P ops r.fps r.st r.fps 0)=some res:=h
    unfold Jp at h
    cases hp2:jP ops (jS P ops r.fps r.st r.fps 0) (jS P ops r.fps r.st r.fps 0) 0 with
    | false=>rw [hp2] at h;cases h
    | true =>
     rw [hp2] at h
     have h:some (Res.normal r.a r.H)=some res:=h
     cases h
     have hg:∀ k,k<ops.size→iZ (jS P ops r.fps r.st r.fps 0) k=if ve P ops r.fps r.st k ops[k]? (lM r.st k)=true then ⟨(fp k).lo,(fp k).hi,[],(fp k).wrs,(fp k).hv⟩ else fp k:=fun k hk=>by
      have:=Eo (P:=P) ops r.fps r.st r.fps 0 k (by omega)
      rw [Nat.zero_add,e6 k hk] at this
      exact this
     refine ⟨_,(vJ ops r.fps r.st r.fps 0).trans e5,hp2,rfl,fun k=>iZ (jS P ops r.fps r.st r.fps 0) k,fun k hk=>?_,fun k hk=>rfl,fun i hi=>?_⟩
     ·have e:=hg k hk
      show (iZ _ k).lo=_∧(iZ _ k).hi=_∧(iZ _ k).wrs=_∧(iZ _ k).hv=_
      rw [e]
      split<;>exact ⟨rfl,rfl,rfl,rfl⟩
     ·show iZ _ i=_∨_
      rw [hg i hi]
      split
      ·rename_i q;exact .inr (Jm e6 e8 hi q)
      ·exact .inl rfl
  obtain ⟨fps,p1,hp,rfl,fp',p2,p3,p4⟩:=hpick
  have hst:∀ k (h:k<ops.size),StepAt P f ops ops[k] (As k) (Hs k) (As (k+1)) (Hs (k+1)) (fp k):=fun k hk=>by
   have:=e7 k (by simpa using hk)
   simpa using this
  have mono:∀ j,j≤ops.size→(Hs 0).next≤(Hs j).next:=by
   intro j
   induction j with
   | zero=>intro _;exact Nat.le_refl _
   | succ j ih=>intro hj;exact Nat.le_trans (ih (by omega)) (step_next hs (hst j hj))
  subst e1;subst e2
  refine ⟨(fun v H' e=>by cases e),by show (Hs 0).next≤r.H.next;rw [← e4];exact mono _ (Nat.le_refl _),fun R w A n rr id hr hw hf ha=>?_⟩
  have hf:Free R (Hs 0) (Hs ops.size):=by rw [e4];exact hf
  have G:=VM hs hst p2 p1 p3 hp hr hw hf ha
  refine wpIn_region_any hm (Oq (R0:=R) (w0:=w) (A0:=A) hs hst hsh G p4 (fun L R' A' w' hL hI=>?_) ops.size _ R A _ (by simp) (by simp) ?_)
  ·have hsy:∀ g,Sy ops Hs (Wdd Hs fp) L ops.size g:=fun g k hk _ _=>⟨fun _=>hL k hk,fun _=>hk⟩
   have hrel:=(hI.rel G (Nat.le_refl _)).weak (S':=Up All (Hs 0).next) fun g _=>hsy g
   have hsim:SimA R R' (Hs 0) (Hs ops.size) w w':=Sim.toA ⟨G.chain ops.size (Nat.zero_le _) (Nat.le_refl _),hI.rx,hI.fr,hrel⟩
   refine ⟨R',by rw [← e4];exact hsim,?_⟩
   have fr:=G.frame ops.size (Nat.le_refl _)
   show AR R' r.a A'
   rw [← e3]
   refine ⟨⟨by rw [hI.tsz,fr.1],fun i hi=>fr.2.2 i (by rw [← fr.1];exact hi),fun t=>hI.tmp ops.size (Nat.le_refl _) t fun k hk _=>⟨fun _=>hL k hk,fun _=>hk⟩⟩,?_⟩
   rw [fr.2.1,hI.df]
   exact ha.df.mono (hsim.le hr hf)
  ·have:=inv_start (w:={ w with drawn:=w.drawn+1 }) G hr hf ha rfl rfl rfl rfl
   have e:(fun (k:Nat)=>(Array.replicate ops.size false)[k]?=some true)=(fun _=>False):=by
    funext k
    apply propext
    rw [Array.getElem?_replicate]
    by_cases e:k<ops.size
    ·rw [if_pos e];simp
    ·rw [if_neg e];simp
   rw [e];exact this
 ·cases h
end Go.Ev
