/- Operations that change the heap: a new variable or row, a store, an append. -/
import Derived.IntWalk
import Derived.Laws.StructEq
import Derived.ChangeKeysEq
import Derived.Laws.IdiomRangeMap
import Derived.Test.YtflblednifbleaaYEz
set_option linter.all false
set_option linter.unusedSimpArgs false
set_option linter.unusedVariables false
namespace Go.Ev
open Go
variable {P:Program}
def Good (P:Program) (R:Ren) (S:Nat→Prop) (H:EH) (w:World) (s:Sem Value) (v:V) (H':EH) (W:Nat→Prop):Prop :=
 ∃ x w' R',s.run P w = .ok x w'∧VR R' v x∧Sim R R' S H H' W w w'
theorem Good.pure {R:Ren} {S:Nat→Prop} {H:EH} {w:World} (hw:WF H) (hr:Rel R S H w) {s:Sem Value} {v:V} {x:Value} (h:s.run P w = .ok x w) (hv:VR R v x):Good P R S H w s v H (fun _=>False) :=
 ⟨x,w,R,h,hv,.refl hw hr⟩
theorem xk (H:EH) (n:Nat) (c:T V) (k:Nat→EH→VO):H.new n c k=k H.next ⟨H.objs.set H.next (.cells c 0 n H.next),H.next+1,H.grps,H.low⟩:=by
 unfold EH.new;rw [dA]
theorem wS {R:Ren} {S:Nat→Prop} {H:EH} {w:World} (hr:Rel R S H w) (hw:WF H) (hf:R.bm H.next=none) {n:Nat} {c:T V} {cs:Array Value} (hc:∀ i,i<n→∃ x y,c.get i=some x∧dE x=true∧cs[i]?=some y∧VR R x y) (elem:TypeId) :
 ∃ w' R',(newRow elem cs).run P w = .ok ⟨w.heap.size,0,none⟩ w'∧Sim R R' S H ⟨H.objs.set H.next (.cells c 0 n H.next),H.next+1,H.grps,H.low⟩ (fun _=>False) w w'∧R'.bm H.next=some (w.heap.size,0)∧R'.zs w.heap.size=cs.size:=by
 obtain ⟨R',h1,h2,h3⟩:=um (w':={ w with heap:=w.heap.push (.cells cs elem) }) hr hw hf (.cells c 0 n H.next) rfl (.cells cs elem) cs.size (fun R' hle hb hz=>by
  refine ⟨cs,elem,(0,0),by simp,hz.symm,fun i hi=>by simp at hi,fun _ _ i _ hi=>⟨Nat.zero_le _,?_⟩⟩
  obtain ⟨x,y,a,b,c,d⟩:=hc i hi
  exact ⟨x,y,a,b,c,d.mono hle⟩) (WA.push w _)
 exact ⟨_,R',rfl,h1,h2,h3⟩
theorem vw {R:Ren} {S:Nat→Prop} {H H':EH} {w:World} (hr:Rel R S H w) (hw:WF H) (hf:Free R H H') {v v':V} {x:Value} (hv:VR R v x) (h:H.newVar v=some (v',H')) (t:TypeId) :
 Good P R S H w (do pure (.pointer (some (← newVar t x)))) v' H' (fun _=>False):=by
 unfold EH.newVar at h
 cases hc:gB v with
 | none=>rw [hc] at h;cases h
 | some p =>
  obtain ⟨n,c⟩:=p
  rw [hc] at h
  simp only [xk] at h
  cases h
  obtain ⟨w',R',e1,e2,e3,e4⟩:=wS (P:=P) hr hw (hf _ (Nat.le_refl _) (Nat.lt_succ_self _)).1 (CR.of_cells hv hc).2 t
  refine ⟨_,w',R',?_,.ptr e3 rfl,e2⟩
  show (newRow t x.cells >>= fun a=>pure (Value.pointer (some a))).run P w=_
  rw [run_bind_ok e1];rfl
theorem tu {H H':EH} {b lo sz g:Nat} {c:Option (T V)} (h:H.storeIn b lo sz g c=some H'):∃ c',c=some c'∧H'=⟨H.objs.set b (.cells c' lo sz g),H.next,lq H.grps g sz,bW H.low g⟩:=by
 unfold EH.storeIn at h
 cases c with
 | none=>cases h
 | some c'=>cases h;exact ⟨c',rfl,rfl⟩
theorem Gj {c c' src:T V} {off sz n:Nat} (h:WG c off sz n src=some c') (hle:off+n≤sz):(∀ k,k<n→∀ x,src.get k=some x→c'.get (off+k)=some x)∧(∀ k,k<sz→(k<off∨off+n≤k)→c'.get k=c.get k):=by
 have key:gQ src n 0 off c=some c'→(∀ k,k<n→∀ x,src.get k=some x→c'.get (off+k)=some x)∧(∀ k,k<sz→(k<off∨off+n≤k)→c'.get k=c.get k):=fun h=>by
  obtain ⟨h1,h2⟩:=ku src n 0 off c c' h
  refine ⟨fun k hk x hx=>?_,fun k _ hk=>h2 k hk⟩
  obtain ⟨v,e1,e2⟩:=h1 k hk
  rw [Nat.zero_add,hx] at e1;cases e1;exact e2
 unfold WG at h
 rw [aH,aH] at h
 by_cases e:off=0
 ·rw [if_pos e] at h
  by_cases e2:n=sz
  ·rw [if_pos e2] at h;cases h;subst e
   exact ⟨fun k _ x hx=>by rw [Nat.zero_add];exact hx,fun k hk hk'=>by omega⟩
  ·rw [if_neg e2] at h;exact key h
 ·rw [if_neg e] at h;exact key h
theorem Ii {R:Ren} {S:Nat→Prop} {H H':EH} {w:World} (hr:Rel R S H w) (hw:WF H) {t:TypeId} {x y:V} {x' y':Value} (hx:VR R x x') (hy:VR R y y') {v:V} (h:rE P t x y H=some (v,H')) (hs:∀ g,g∈dM H x→S g) :
 ∃ w',(Instr.storeAt t x' y').run P w = .ok () w'∧v = .bad∧Sim R R S H H' (fun g=>g∈dM H x) w w':=by
 unfold rE at h
 split at h
 ·rename_i b off
  cases hx with
  | ptr hm ho =>
   rename_i r d o
   split at h
   ·rename_i n m c hn hc
    rw [aH] at h
    split at h
    ·rename_i enm
     subst enm
     unfold stO at h
     cases hst:H.storeN b off n c with
     | none=>rw [hst] at h;cases h
     | some H1 =>
      rw [hst] at h;cases h
      unfold EH.storeN at hst
      cases hb:H.block b with
      | no=>rw [hb] at hst;cases hst
      | mk c0 lo sz g =>
       rw [hb] at hst
       simp only [bg] at hst
       split at hst
       ·rename_i q1
        split at hst
        ·rename_i q2
         have q2':off+n≤sz:=q2
         obtain ⟨c',hp,rfl⟩:=tu hst
         obtain ⟨p1,p2⟩:=Gj hp q2'
         have hgm:dM H (.ptr b off)=[g]:=by show mf H b=_;unfold mf;rw [(aV hb).1]
         rw [hgm] at hs ⊢
         obtain ⟨cs,t',fz,a1,a2,a3,a4⟩:=hr.row hb hm (hs g (by simp))
         obtain ⟨z1,z2⟩:=CR.of_cells hy hc
         have hrun:(Instr.storeAt t (.pointer (some ⟨r,o,none⟩)) y').run P w=(storeCells ⟨r,o,none⟩ y'.cells.toList).run P w:=by
          show (storeVar t ⟨r,o,none⟩ y').run P w=_
          unfold storeVar
          rw [run_bind_ok (bQ hn w),if_neg (by simpa using z1)]
         by_cases hn0:n=0
         ·subst hn0
          have e0:y'.cells.toList=[]:=by
           apply List.eq_nil_of_length_eq_zero;simpa using z1
          refine ⟨w,by rw [hrun,e0];rfl,rfl,?_⟩
          have:=pF (w':=w) hr hw (aV hb).1 (aV hb).2 hm (c':=c') (cs':=cs) (t:=t') (fz:=fz) a2 a3 (fun i hi hj=>by
           obtain ⟨k0,xx,yy,k1,k2,k3,k4⟩:=a4 i hi hj
           exact ⟨k0,xx,yy,(p2 i hj (by omega)).trans k1,k2,k3,k4⟩) ⟨rfl,a1,fun _ _=>rfl,rfl,rfl,rfl⟩
          simpa using this
         ·have hin:o+n≤cs.size:=by
           obtain ⟨k0,xx,yy,k1,k2,k3,k4⟩:=a4 (off+(n-1)) (by omega) (by omega)
           have:=(Array.getElem?_eq_some_iff.1 k3).1
           omega
          have hlen:y'.cells.toList.length=n:=by simpa using z1
          obtain ⟨w',cs',e1,e2,e3,e4⟩:=qN (P:=P) r t' fz a3 y'.cells.toList o 0 cs w a1 (by omega) (fun v hv=>by
           obtain ⟨i,hi,rfl⟩:=List.getElem_of_mem hv
           obtain ⟨x1,y1,g1,g2,g3,g4⟩:=z2 i (by omega)
           have g5:y'.cells[i]?=some (y'.cells.toList[i]):=by simp [show i<y'.cells.size by simpa using hi]
           rw [g5] at g3;cases g3;exact g4.oneCell g2)
          refine ⟨w',by rw [hrun];exact e1,rfl,?_⟩
          have:=pF hr hw (aV hb).1 (aV hb).2 hm (c':=c') (cs':=cs') (t:=t') (fz:=fz) (by rw [e3];exact a2) a3 (fun i hi hj=>by
           obtain ⟨k0,xx,yy,k1,k2,k3,k4⟩:=a4 i hi hj
           refine ⟨k0,?_⟩
           rw [e4]
           by_cases hin2:off≤i∧i<off+n
           ·rw [if_pos (by omega)]
            obtain ⟨x1,y1,g1,g2,g3,g4⟩:=z2 (i-off) (by omega)
            have g5:=p1 (i-off) (by omega) x1 g1
            rw [show off+(i-off)=i by omega] at g5
            refine ⟨x1,y1,g5,g2,?_,g4⟩
            rw [show i-d-(o+0)=i-off by omega]
            simpa using g3
           ·rw [if_neg (by omega)]
            exact ⟨xx,yy,(p2 i hj (by omega)).trans k1,k2,k3,k4⟩) e2
          simpa using this
        ·cases hst
       ·cases hst
    ·cases h
   ·cases h
 ·cases h
theorem oM {w:World} {need old:Nat} {elem:TypeId}:∃ n,(choose (.appendCap need old elem)).run P w = .ok n { w with drawn:=w.drawn+1 }∧need≤n:=by
 refine ⟨need+w.tape w.drawn (.appendCap need old elem)%(2^63-need),?_,Nat.le_add_right _ _⟩
 unfold choose
 simp only [Sem.run,Question.forced,Question.cut]
 rfl
theorem run_askRoom (n:Nat) (w:World):(askRoom n).run P w = .ok () w:=by
 unfold askRoom;split<;>rfl
theorem NV (newLen:Nat):∀ (rounds c:Nat),c≤2*newLen+200→Builtin.growBy newLen rounds c≤2*newLen+200:=by
 intro rounds
 induction rounds with
 | zero=>intro c h;exact h
 | succ n ih =>
  intro c h
  unfold Builtin.growBy
  split
  ·exact h
  ·exact ih _ (by omega)
theorem yj {need old:Nat} (h:old<need):Builtin.nextslicecap need old≤2*need+200:=by
 unfold Builtin.nextslicecap
 split
 ·omega
 ·split
  ·omega
  ·exact NV need 4 old (by omega)
theorem nT (zero:Array Value) (n:Nat):(Builtin.zeroCells zero n).size=n*zero.size:=by simp [Builtin.zeroCells]
structure AppOk (P:Program) (elem:TypeId) (e need:Nat):Prop where
 pos:0<e
 le:need≤281474976710656
 info:∃ i z,P.info? elem=some i∧(2*need+200)*i.bytes≤281474976710656∧i.zero=some z∧z.cells.size=e
theorem qO {elem:TypeId} {e need:Nat} (h:l9 P elem e need=true):AppOk P elem e need:=by
 unfold l9 at h
 cases hi:P.info? elem with
 | none=>rw [hi] at h;cases h
 | some i =>
  rw [hi] at h
  simp only [dB,bg] at h
  split at h
  ·rename_i h1
   split at h
   ·rename_i h2
    split at h
    ·rename_i h3
     cases hz:i.zero with
     | none=>rw [hz] at h;cases h
     | some z =>
      rw [hz] at h
      simp only at h
      cases hc:gB (ofC z) with
      | none=>rw [hc] at h;cases h
      | some p =>
       rw [hc] at h
       obtain ⟨n,c⟩:=p
       have e1:n=e:=by simpa [rY] using h
       have:=(CR.of_cells (VR.ofC ⟨fun _=>none,fun _=>0,fun _ _=>none⟩ z) hc).1
       exact ⟨h1,h3,i,z,hi,h2,hz,by rw [this,e1]⟩
    ·cases h
   ·cases h
  ·cases h
theorem mD {R : Ren} {S : Nat → Prop} {H : EH} {w : World} (hr : Rel R S H w) {e : Nat} {x : V} {x' : Value} (hx : VR R x x') {xs : Cs} (h : fH H e x = some xs) (hs : ∀ g, g ∈ dM H x → S g) :
    (Builtin.lenOf x').run P w = .ok xs.m w ∧ xs.n = xs.m * e ∧ ∃ cs, (Builtin.firstCells e xs.m x').run P w = .ok cs w ∧ cs.size = xs.n ∧ ∀ i, i < xs.n → ∃ a b, xs.c.get (xs.off + i) = some a ∧ dE a = true ∧ cs[i]? = some b ∧ VR R a b := by
  unfold fH at h
  split at h
  · cases h; cases hx
    exact ⟨rfl, by simp, #[], rfl, rfl, fun i hi => absurd hi (Nat.not_lt_zero _)⟩
  · rename_i b off len e'
    cases hx with
    | slice hm ho hl hz =>
      rename_i r d o cap
      rw [aH] at h
      split at h
      · rename_i ee
        subst ee
        cases hb : H.block b with
        | no => rw [hb] at h; cases h
        | mk c lo sz g =>
          rw [hb] at h
          simp only [bg] at h
          split at h
          · rename_i q1
            split at h
            · rename_i q2
              cases h
              have q2' : off + len * e ≤ sz := q2
              obtain ⟨cs, t, fz, a1, a2, a3, a4⟩ := hr.row hb hm (hs g (by show g ∈ mf H b; unfold mf; rw [(aV hb).1]; simp))
              refine ⟨rfl, rfl, ?_⟩
              show ∃ cs, (loadCells ⟨r, o, none⟩ (len * e)).run P w = .ok cs w ∧ _
              by_cases h0 : len * e = 0
              · refine ⟨#[], by rw [h0]; rfl, by show 0 = len * e; omega, fun i hi => absurd hi (by show ¬ i < len * e; omega)⟩
              · have hcap : cap ≠ 0 := fun h => by subst h; have : len = 0 := by omega
                                                   subst this; simp at h0
                have ho' := ho hcap
                have hin : o + len * e ≤ cs.size := by
                  obtain ⟨k0, xx, yy, k1, k2, k3, k4⟩ := a4 (off + (len * e - 1)) (by omega) (by omega)
                  have := (Array.getElem?_eq_some_iff.1 k3).1
                  omega
                refine ⟨cs.extract o (o + len * e), mF a1 hin, by simp; omega, fun i hi => ?_⟩
                have hi' : i < len * e := hi
                obtain ⟨k0, xx, yy, k1, k2, k3, k4⟩ := a4 (off + i) (by omega) (by omega)
                refine ⟨xx, yy, k1, k2, ?_, k4⟩
                rw [Array.getElem?_extract, if_pos (by omega), ← k3]
                congr 1; omega
            · cases h
          · cases h
      · cases h
  · rename_i k a c len e'
    rw [aH] at h
    split at h
    · rename_i ee
      subst ee
      cases h
      have emp : len = 0 → ∀ x', (Builtin.lenOf x').run P w = .ok 0 w → (Builtin.firstCells e 0 x').run P w = .ok #[] w → (Builtin.lenOf x').run P w = .ok len w ∧ Nat.mul len e = len * e ∧ ∃ cs, (Builtin.firstCells e len x').run P w = .ok cs w ∧ cs.size = Nat.mul len e ∧
          ∀ i, i < Nat.mul len e → ∃ a b, (T.fn (fun k => some (c (Nat.div k e) (Nat.mod k e)))).get (0 + i) = some a ∧ dE a = true ∧ cs[i]? = some b ∧ VR R a b := fun h0 x' g1 g2 => by
        subst h0
        exact ⟨g1, rfl, #[], g2, by show 0 = 0 * e; omega, fun i hi => absurd hi (by show ¬ i < 0 * e; omega)⟩
      cases hx with
      | fzN => exact emp rfl _ rfl rfl
      | fzE =>
        refine emp rfl _ rfl ?_
        show (loadCells _ (0 * e)).run P w = _
        rw [Nat.zero_mul]; rfl
      | fz y hc hl hy hs ha hv h0 =>
        rename_i r o cap cs
        obtain ⟨⟨t, fz, hcell⟩, _⟩ := hr.frz a r cs hc
        refine ⟨rfl, rfl, ?_⟩
        show ∃ cs, (loadCells ⟨r, o, none⟩ (len * e)).run P w = .ok cs w ∧ _
        by_cases h0 : len * e = 0
        · refine ⟨#[], by rw [h0]; rfl, by show 0 = len * e; omega, fun i hi => absurd hi (by show ¬ i < len * e; omega)⟩
        · have he : 0 < e := Nat.pos_of_ne_zero fun q => h0 (by rw [q]; rfl)
          have key : ∀ i, i < len * e → cs[o + i]? = some (y (i / e) (i % e)) ∧ i / e < len ∧ i % e < e := fun i hi => by
            have h1 : i / e < len := (Nat.div_lt_iff_lt_mul he).2 hi
            have h2 : i % e < e := Nat.mod_lt _ he
            have h3 := hy (i / e) (i % e) h1 h2
            have h4 : i / e * e + i % e = i := by rw [Nat.mul_comm]; exact Nat.div_add_mod i e
            rw [h4] at h3
            exact ⟨h3, h1, h2⟩
          have hin : o + len * e ≤ cs.size := by
            have := (Array.getElem?_eq_some_iff.1 (key (len * e - 1) (by omega)).1).1
            omega
          refine ⟨cs.extract o (o + len * e), mF hcell hin, by simp; show _ = len * e; omega, fun i hi => ?_⟩
          have hi' : i < len * e := hi
          obtain ⟨k1, k2, k3⟩ := key i hi'
          refine ⟨c (i / e) (i % e), y (i / e) (i % e), by rw [Nat.zero_add]; rfl, hs _ _ k2 k3, ?_, hv _ _ k2 k3⟩
          rw [Array.getElem?_extract, if_pos (by omega)]
          exact k1
    · cases h
  · cases h
theorem AU {c c':T V} {xs:Cs} {n:Nat} (h:gQ xs.c xs.n xs.off n c=some c'):(∀ i,i<xs.n→∀ a,xs.c.get (xs.off+i)=some a→c'.get (n+i)=some a)∧∀ k,k<n→c'.get k=c.get k:=by
 obtain ⟨h1,h2⟩:=ku xs.c xs.n xs.off n c c' h
 refine ⟨fun i hi a ha=>?_,fun k hk=>h2 k (.inl hk)⟩
 obtain ⟨v,e1,e2⟩:=h1 i hi
 rw [ha] at e1;cases e1;exact e2
end Go.Ev
/- append. -/
namespace Go.Ev
open Go
variable {P:Program}
theorem Sim.drawn {R R':Ren} {S:Nat→Prop} {H H':EH} {W:Nat→Prop} {w w':World} {k:Nat} (h:Sim R R' S H H' W { w with drawn:=k } w'):Sim R R' S H H' W w w' :=
 ⟨h.es,⟨h.rx.same,h.rx.zs,h.rx.neu,h.rx.cz,h.rx.czn⟩,⟨h.fr.os,h.fr.tape,h.fr.output,h.fr.size,h.fr.keep⟩,h.rel⟩
theorem jg {w w':World} {ts:Array TypeId} {ty:TypeId} {args:Array Value} {st xt elem el2:TypeId} {a:Addr} {len cap m e:Nat} {x':Value} {new:Array Value} (ht0:ts[0]?=some st) (ht1:ts[1]?=some xt)
 (ha0:args[0]?=some (.slice (some a) len cap)) (ha1:args[1]?=some x') (hu:P.underlying st=some (.slice elem)) (hu2:P.underlying xt=some (.slice el2)) (he:dm P elem=some e) (hl:(Builtin.lenOf x').run P w = .ok m w)
 (hle:len+m≤cap) (hn:(Builtin.firstCells e m x').run P w = .ok new w) (hs:(storeCells (a.add (len*e)) new.toList).run P w = .ok () w') :
 (Builtin.append_ ts ty args).run P w = .ok (.slice (some a) (len+m) cap) w':=by
 unfold Builtin.append_
 simp only [ht0,ht1,ha0,ha1]
 rw [run_bind_ok (aB hu w)]
 dsimp only
 rw [run_bind_ok (bQ he w),run_bind_ok (aB hu2 w)]
 dsimp only
 rw [run_bind_ok (show (pure false:Sem Bool).run P w = .ok false w from rfl),if_neg (by simp),run_bind_ok hl,if_pos hle]
 simp only [Bool.not_false,if_true]
 rw [run_bind_ok hn,run_bind_ok hs]
 rfl
theorem run_append_nil {w:World} {ts:Array TypeId} {ty:TypeId} {args:Array Value} {st xt elem el2:TypeId} {len cap m e:Nat} {x':Value} {new:Array Value} (ht0:ts[0]?=some st) (ht1:ts[1]?=some xt)
 (ha0:args[0]?=some (.slice none len cap)) (ha1:args[1]?=some x') (hu:P.underlying st=some (.slice elem)) (hu2:P.underlying xt=some (.slice el2)) (he:dm P elem=some e) (hl:(Builtin.lenOf x').run P w = .ok m w)
 (hle:len+m≤cap) (hn:(Builtin.firstCells e m x').run P w = .ok new w) :
 (Builtin.append_ ts ty args).run P w = .ok (.slice none (len+m) cap) w:=by
 unfold Builtin.append_
 simp only [ht0,ht1,ha0,ha1]
 rw [run_bind_ok (aB hu w)]
 dsimp only
 rw [run_bind_ok (bQ he w),run_bind_ok (aB hu2 w)]
 dsimp only
 rw [run_bind_ok (show (pure false:Sem Bool).run P w = .ok false w from rfl),if_neg (by simp),run_bind_ok hl,if_pos hle]
 simp only [Bool.not_false,if_true]
 rw [run_bind_ok hn]
 rfl
theorem run_append_grow {w:World} {ts:Array TypeId} {ty:TypeId} {args:Array Value} {st xt elem el2:TypeId} {base:Option Addr} {len cap m e:Nat} {x':Value} {old new:Array Value} (ht0:ts[0]?=some st) (ht1:ts[1]?=some xt)
 (ha0:args[0]?=some (.slice base len cap)) (ha1:args[1]?=some x') (hu:P.underlying st=some (.slice elem)) (hu2:P.underlying xt=some (.slice el2)) (he:dm P elem=some e) (hl:(Builtin.lenOf x').run P w = .ok m w)
 (hlt:¬ len+m≤cap) (hok:AppOk P elem e (len+m)) (hold:(Builtin.firstCells e len (.slice base len cap)).run P { w with drawn:=w.drawn+1 } = .ok old { w with drawn:=w.drawn+1 })
 (hn:(Builtin.firstCells e m x').run P { w with drawn:=w.drawn+1 } = .ok new { w with drawn:=w.drawn+1 }) :
 ∃ (newCap:Nat) (rest:Array Value),len+m≤newCap∧rest.size=(newCap-(len+m))*e∧(Builtin.append_ ts ty args).run P w=(do pure (Value.slice (some (← newRow elem (old++new++rest))) (len+m) newCap):Sem Value).run P { w with drawn:=w.drawn+1 }:=by
 obtain ⟨i,z,hi,hb,hz,hze⟩:=hok.info
 obtain ⟨nc,c1,c2⟩:=oM (P:=P) (w:=w) (need:=len+m) (old:=cap) (elem:=elem)
 have hzv:∀ w,(zeroValue elem).run P w = .ok z w:=fun w=>by
  unfold zeroValue;rw [run_bind_ok (eP hi w),hz];rfl
 refine ⟨nc,Builtin.zeroCells z.cells (nc-(len+m)),c2,by rw [nT,hze],?_⟩
 have hle:=hok.le
 have hn1:¬ (((len+m:Nat):Int)>IntKind.i64.max∧(false=true∨i.bytes=0)):=by
  have e1:IntKind.i64.max=9223372036854775807:=by decide
  rw [e1];omega
 have hn2:¬ (Builtin.nextslicecap (len+m) cap*i.bytes>2^48):=by
  have h1:=yj (need:=len+m) (old:=cap) (by omega)
  have h2:Builtin.nextslicecap (len+m) cap*i.bytes≤(2*(len+m)+200)*i.bytes:=Nat.mul_le_mul_right _ h1
  omega
 unfold Builtin.append_
 simp only [ht0,ht1,ha0,ha1]
 rw [run_bind_ok (aB hu w)]
 dsimp only
 rw [run_bind_ok (bQ he w),run_bind_ok (aB hu2 w)]
 dsimp only
 rw [run_bind_ok (show (pure false:Sem Bool).run P w = .ok false w from rfl),if_neg (by simp),run_bind_ok hl,if_neg hlt]
 rw [run_bind_ok (eP hi w),if_neg hn1]
 try dsimp only
 rw [run_bind_ok (eP hi w),if_neg hn2]
 try dsimp only
 rw [run_bind_ok c1,run_bind_ok (eP hi _),run_bind_ok (run_askRoom _ _),run_bind_ok hold]
 simp only [Bool.not_false,if_true]
 rw [run_bind_ok hn,run_bind_ok (hzv _)]
theorem empty_of {R:Ren} {s:V} {s':Value} (h:VR R s s') (hE:isE s=true):∃ base:Option Addr,s' = .slice base 0 0:=by
 cases h with
 | nilSlice=>exact ⟨none,rfl⟩
 | fzN=>exact ⟨none,rfl⟩
 | fzE h0 =>
  rename_i k a c e r o cap sp
  cases k with
  | true=>cases hE
  | false =>
   cases e with
   | succ e=>cases hE
   | zero=>have:=h0 rfl rfl;subst this;exact ⟨_,rfl⟩
 | fz y hc hl hy hs ha hv h0 =>
  rename_i k a c len e r o cap cs
  cases k with
  | true=>cases hE
  | false =>
   cases len with
   | succ n=>cases e<;>cases hE
   | zero =>
    cases e with
    | succ e=>cases hE
    | zero=>have:=h0 rfl rfl;subst this;exact ⟨_,rfl⟩
 | _=>cases hE
theorem qV {e:Nat} (base:Option Addr) {w:World}:(Builtin.firstCells e 0 (.slice base 0 0)).run P w = .ok #[] w:=by
 cases base with
 | none=>rfl
 | some a=>show (loadCells a (0*e)).run P w=_;rw [Nat.zero_mul];rfl
theorem Na {R : Ren} {S : Nat → Prop} {H H' : EH} {w : World} (hr : Rel R S H w) (hw : WF H) (hf : Free R H H') {ts : Array TypeId} {ty : TypeId} {args : Array Value} {st xt : TypeId} {s x v : V} {s' x' : Value}
    (ht0 : ts[0]? = some st) (ht1 : ts[1]? = some xt) (ha0 : args[0]? = some s') (ha1 : args[1]? = some x') (hs : VR R s s') (hx : VR R x x') {elem el2 : TypeId} {e : Nat} (hu : P.underlying st = some (.slice elem)) (hu2 : P.underlying xt = some (.slice el2)) (he : dm P elem = some e) (h : IW P elem e s x H = some (v, H'))
    (hS : ∀ g, g ∈ dM H s ∨ g ∈ dM H x → S g) : ∃ W : Nat → Prop, (∀ g, W g → g ∈ dM H s) ∧ Good P R S H w (Builtin.append_ ts ty args) v H' W := by
  unfold IW at h
  · · · cases hxs : fH H e x with
      | none => rw [hxs] at h; cases h
      | some xs =>
        rw [hxs] at h
        simp only at h
        cases hok : l9 P elem e (Nat.add (O9 s) xs.m) with
        | false => rw [hok] at h; cases h
        | true =>
          rw [hok] at h
          have hok' := qO hok
          have hpos := hok'.pos
          change H.appendV e s xs = some (v, H') at h
          obtain ⟨hl, hxn, new, hn, hnz, hnc⟩ := mD (P := P) hr hx hxs (fun g hg => hS g (.inr hg))
          have hdr : Rel R S H { w with drawn := w.drawn + 1 } := ⟨hr.img, fun b o r d a c => (hr.obj b o r d a c).mono (.refl R) c rfl id id, hr.inj, hr.frz⟩
          obtain ⟨_, _, new2, hn2, hnz2, hnc2⟩ := mD (P := P) hdr hx hxs (fun g hg => hS g (.inr hg))
          cases hE : isE s with
          | true =>
            refine ⟨fun _ => False, fun _ h => h.elim, ?_⟩
            obtain ⟨base, hbase⟩ := empty_of hs hE
            subst hbase
            have h : cond (Nat.beq xs.m 0) (some (s, H)) (Io H e xs) = some (v, H') := by
              cases s <;> first | (cases hE; done) | exact h | (have h : cond (isE _) (cond (Nat.beq xs.m 0) (some (_, H)) (Io H e xs)) none = some (v, H') := h; rw [hE] at h; exact h)
            have hlen : O9 s = 0 := by cases s <;> first | rfl | cases hE
            rw [aH] at h
            by_cases hm0 : xs.m = 0
            · rw [if_pos hm0] at h
              rw [hm0] at hl hn
              have hne : new = #[] := by
                apply Array.eq_empty_of_size_eq_zero; rw [hnz, hxn, hm0]; simp
              cases h
              cases base with
              | none => exact ⟨_, w, R, run_append_nil ht0 ht1 ha0 ha1 hu hu2 he hl (by simp) hn, hs, .refl hw hr⟩
              | some a => exact ⟨_, w, R, jg ht0 ht1 ha0 ha1 hu hu2 he hl (by simp) hn (w' := w) (by rw [hne]; rfl), hs, .refl hw hr⟩
            · rw [if_neg hm0] at h
              have hm1 : 1 ≤ xs.m * e := Nat.mul_pos (by omega) hpos
              unfold Io at h
              have hold : (Builtin.firstCells e 0 (.slice base 0 0)).run P { w with drawn := w.drawn + 1 } = .ok #[] { w with drawn := w.drawn + 1 } := qV base
              cases hcp : gQ xs.c xs.n xs.off 0 .lf with
              | none => rw [hcp] at h; cases h
              | some c' =>
                rw [hcp] at h
                simp only at h
                unfold EH.newRow at h
                rw [xk] at h
                cases h
                obtain ⟨nc, rest, k1, k2, k3⟩ := run_append_grow (P := P) (ty := ty) ht0 ht1 ha0 ha1 hu hu2 he hl (by omega) (by rw [hlen] at hok'; simpa using hok') (old := #[]) hold hn2
                obtain ⟨q1, q2⟩ := AU hcp
                obtain ⟨w', R', e1, e2, e3, e4⟩ := wS (P := P) (n := xs.n) (c := c') (cs := #[] ++ new2 ++ rest) hdr hw (hf _ (Nat.le_refl _) (Nat.lt_succ_self _)).1 (fun i hi => by
                  obtain ⟨a, b, z1, z2, z3, z4⟩ := hnc2 i hi
                  refine ⟨a, b, by have := q1 i hi a z1; rwa [Nat.zero_add] at this, z2, ?_, z4⟩
                  rw [Array.getElem?_append_left (by simp; omega)]; simpa using z3) elem
                refine ⟨_, w', R', by rw [k3, run_bind_ok e1]; rfl, ?_, e2.drawn⟩
                have hz : 0 + nc * e ≤ R'.zs w.heap.size := by
                  show _ ≤ R'.zs ({ w with drawn := w.drawn + 1 } : World).heap.size
                  rw [e4]
                  simp only [Array.size_append, Array.size_empty, k2, hnz2, hxn]
                  have : nc * e = (nc - (0 + xs.m)) * e + xs.m * e := by rw [← Nat.add_mul]; congr 1; omega
                  omega
                have hv : VR R' (.slice H.next 0 (0 + xs.m) e) (.slice (some ⟨w.heap.size, 0, none⟩) (0 + xs.m) nc) := .slice e3 (fun _ => rfl) k1 hz
                rw [Nat.zero_add] at hv ⊢
                exact hv
          | false =>
            cases hs with
            | slice hm ho hl2 hz =>
              rename_i b off len e' r d o cap
              replace h : cond (Nat.beq xs.m 0) (some (V.slice b off len e', H)) (cond (Nat.beq e e') (Gz H e b off len xs) none) = some (v, H') := h
              rw [aH] at h
              by_cases hm0 : xs.m = 0
              · rw [if_pos hm0] at h
                rw [hm0] at hl hn
                have hne : new = #[] := by
                  apply Array.eq_empty_of_size_eq_zero; rw [hnz, hxn, hm0]; simp
                refine ⟨fun _ => False, fun _ h => h.elim, ?_⟩
                cases h
                exact ⟨_, w, R, jg ht0 ht1 ha0 ha1 hu hu2 he hl (by simpa using hl2) hn (w' := w) (by rw [hne]; rfl), .slice hm ho hl2 hz, .refl hw hr⟩
              rw [if_neg hm0] at h
              have hm1 : 1 ≤ xs.m * e := Nat.mul_pos (by omega) hpos
              simp only [aH] at h
              split at h
              · rename_i ee
                subst ee
                unfold Gz at h
                cases hb : H.block b with
                | no => rw [hb] at h; cases h
                | mk c lo sz g =>
                  rw [hb] at h
                  simp only [dA, bg] at h
                  split at h
                  · rename_i q1
                    split at h
                    · rename_i q2
                      have q2' : off + len * e ≤ sz := q2
                      cases hcp : gQ xs.c xs.n xs.off (Nat.add off (Nat.mul len e)) c with
                      | none => rw [hcp] at h; cases h
                      | some c' =>
                        rw [hcp] at h
                        simp only at h
                        unfold PW at h
                        rw [dA] at h
                        cases h
                        have hcp' : gQ xs.c xs.n xs.off (off + len * e) c = some c' := hcp
                        obtain ⟨z1, z2⟩ := AU hcp'
                        obtain ⟨hbo, hbv⟩ := aV hb
                        have hg : dM H (.slice b off len e) = [g] := by show mf H b = _; unfold mf; rw [hbo]
                        have hSg : S g := hS g (.inl (by rw [hg]; simp))
                        obtain ⟨cs, t, fz, a1, a2, a3, a4⟩ := hr.row hb hm hSg
                        refine ⟨fun x => x = g, fun x hx => by subst hx; rw [hg]; simp, ?_⟩
                        have hlen : O9 (.slice b off len e) = len := rfl
                        rw [hlen] at hok'
                        have hok2 : AppOk P elem e (len + xs.m) := hok'
                        have hzl : o + cap * e ≤ cs.size := by rw [a2]; exact hz
                        have hlec : len * e ≤ cap * e := Nat.mul_le_mul_right _ hl2
                        have hnn : off + len * e < off + len * e + xs.n := by omega
                        by_cases hfit : len + xs.m ≤ cap
                        · have hcap : cap ≠ 0 := by omega
                          have ho' := ho hcap
                          have hin : o + len * e + xs.n ≤ cs.size := by
                            have h1 : (len + xs.m) * e ≤ cap * e := Nat.mul_le_mul_right _ hfit
                            rw [Nat.add_mul] at h1; omega
                          obtain ⟨w', cs', e1, e2, e3, e4⟩ := qN (P := P) r t fz a3 new.toList (o + len * e) 0 cs w a1 (by simp [hnz]; omega) (fun v hv => by
                            obtain ⟨i, hi, rfl⟩ := List.getElem_of_mem hv
                            obtain ⟨x1, y1, g1, g2, g3, g4⟩ := hnc i (by simp at hi; omega)
                            have g5 : new[i]? = some (new.toList[i]) := by simp [show i < new.size by simpa using hi]
                            rw [g5] at g3; cases g3; exact g4.oneCell g2)
                          have hln : new.toList.length = xs.n := by simpa using hnz
                          rw [hln] at e4
                          obtain ⟨R', s1, s2, s3⟩ := xE (w' := w') (off := off) (n := off + len * e) (sz' := off + len * e + xs.n) (c' := c') (r' := r) (d' := d) (cs' := cs') (t := t) (fz := fz) hr hw (hf _ (Nat.le_refl _) (Nat.lt_succ_self _)).1 hbo hbv hm q2' hnn a3
                            (.inr ⟨rfl, rfl, e2.size, e3.trans a2, e2.old, fun cs0 t2 fz2 h0 k hk => by rw [a1] at h0; cases h0; rw [e4, if_neg (by omega)]⟩) e2.neu e2.os e2.tape e2.output
                            (fun R' hle i hi hj => by
                              by_cases hi2 : i < off + len * e
                              · obtain ⟨k0, xx, yy, k1, k2, k3, k4⟩ := a4 i (Nat.le_trans q1 hi) (by omega)
                                refine ⟨k0, xx, yy, (z2 i hi2).trans k1, k2, ?_, k4.mono hle⟩
                                rw [e4, if_neg (by omega)]; exact k3
                              · obtain ⟨xx, yy, k1, k2, k3, k4⟩ := hnc (i - (off + len * e)) (by omega)
                                have k5 := z1 (i - (off + len * e)) (by omega) xx k1
                                rw [show off + len * e + (i - (off + len * e)) = i by omega] at k5
                                refine ⟨by omega, xx, yy, k5, k2, ?_, k4.mono hle⟩
                                rw [e4, if_pos (by omega), show i - d - (o + len * e + 0) = i - (off + len * e) by omega]
                                simpa using k3)
                          refine ⟨_, w', R', jg ht0 ht1 ha0 ha1 hu hu2 he hl hfit hn (w' := w') (by rw [dN]; exact e1), .slice s2 (fun _ => ho') hfit ?_, s1⟩
                          rw [s3, e3]; exact hzl
                        · have hold : ∀ w2 : World, w2.heap = w.heap → (Builtin.firstCells e len (.slice (some ⟨r, o, none⟩) len cap)).run P w2 = .ok (cs.extract o (o + len * e)) w2 := fun w2 hw2 => by
                            show (loadCells ⟨r, o, none⟩ (len * e)).run P w2 = _
                            exact mF (by rw [hw2]; exact a1) (by omega)
                          obtain ⟨nc, rest, k1, k2, k3⟩ := run_append_grow (P := P) (ty := ty) ht0 ht1 ha0 ha1 hu hu2 he hl hfit hok2 (hold _ rfl) hn2
                          have hosz : (cs.extract o (o + len * e)).size = len * e := by simp; omega
                          have hco : len * e ≠ 0 → o + d = off := fun h0 => ho fun hc => by subst hc; have : len = 0 := by omega
                                                                                            subst this; simp at h0
                          obtain ⟨R', s1, s2, s3⟩ := xE (w := { w with drawn := w.drawn + 1 }) (w' := { ({ w with drawn := w.drawn + 1 } : World) with heap := w.heap.push (.cells (cs.extract o (o + len * e) ++ new2 ++ rest) elem) }) (off := off) (n := off + len * e) (sz' := off + len * e + xs.n) (c' := c')
                            (r' := w.heap.size) (d' := off) (cs' := cs.extract o (o + len * e) ++ new2 ++ rest) (t := elem) (fz := (0, 0)) hdr hw (hf _ (Nat.le_refl _) (Nat.lt_succ_self _)).1 hbo hbv hm q2' hnn (fun i hi => by simp at hi)
                            (.inl ⟨rfl, by simp, fun q hq => by simp only; rw [Array.getElem?_push, if_neg (Nat.ne_of_lt hq)]⟩) (by simp) rfl rfl rfl
                            (fun R' hle i hi hj => by
                              refine ⟨hi, ?_⟩
                              by_cases hi2 : i < off + len * e
                              · obtain ⟨k0, xx, yy, k1, k2, k3, k4⟩ := a4 i (Nat.le_trans q1 hi) (by omega)
                                have hod := hco (by omega)
                                refine ⟨xx, yy, (z2 i hi2).trans k1, k2, ?_, k4.mono hle⟩
                                rw [Array.getElem?_append_left (by simp; omega), Array.getElem?_append_left (by omega), Array.getElem?_extract, if_pos (by omega), ← k3]
                                congr 1; omega
                              · obtain ⟨xx, yy, k1, k2, k3, k4⟩ := hnc2 (i - (off + len * e)) (by omega)
                                have k5 := z1 (i - (off + len * e)) (by omega) xx k1
                                rw [show off + len * e + (i - (off + len * e)) = i by omega] at k5
                                refine ⟨xx, yy, k5, k2, ?_, k4.mono hle⟩
                                rw [Array.getElem?_append_left (by simp; omega), Array.getElem?_append_right (by omega), ← k3]
                                congr 1; omega)
                          refine ⟨_, _, R', by rw [k3]; rfl, .slice s2 (fun _ => Nat.zero_add _) k1 ?_, s1.drawn⟩
                          rw [s3]
                          simp only [Array.size_append, hosz, hnz2, hxn, k2]
                          have : nc * e = (nc - (len + xs.m)) * e + (len + xs.m) * e := by rw [← Nat.add_mul]; congr 1; omega
                          rw [Nat.add_mul] at this
                          omega
                    · cases h
                  · cases h
              · cases h
            | nilSlice => cases hE
            | _ =>
              first
                | (cases h; done)
                | (have h : cond (isE _) (cond (Nat.beq xs.m 0) (some (_, H)) (Io H e xs)) none = some (v, H') := h; rw [hE] at h; cases h)
theorem Q5 {R:Ren} {S:Nat→Prop} {H H':EH} {w:World} (hr:Rel R S H w) (hw:WF H) (hf:Free R H H') {ts:Array TypeId} {ty:TypeId} {args:Array Value} {st xt:TypeId} {s x v:V} {s' x':Value}
 (ht0:ts[0]?=some st) (ht1:ts[1]?=some xt) (ha0:args[0]?=some s') (ha1:args[1]?=some x') (hs:VR R s s') (hx:VR R x x') {elem el2:TypeId} {e:Nat} (hu:P.underlying st=some (.slice elem)) (hu2:P.underlying xt=some (.slice el2)) (he:dm P elem=some e)
 (hle:qP x≤1048576) (h:I9 P elem e s x H=some (v,H')):Good P R S H w (Builtin.append_ ts ty args) v H' (fun _=>False):=by
 unfold I9 at h
 split at h
 ·rename_i k a c len e'
  have hle:len≤1048576:=hle
  cases hok:Sm P elem e e' s with
  | false=>rw [hok] at h;cases h
  | true =>
   rw [hok] at h
   have h:cond (Nat.ble a H.next) (Ce c len e H) none=some (v,H'):=h
   rw [bg] at h
   split at h
   case isFalse=>cases h
   rename_i hage
   unfold Ce at h
   rw [dA] at h
   cases h
   unfold Sm at hok
   rw [aH] at hok
   split at hok
   ·rename_i ee
    subst ee
    have hE:isE s=true:=by
     cases q:isE s with
     | true=>rfl
     | false=>rw [q] at hok;cases hok
    rw [hE] at hok
    obtain ⟨base,hbase⟩:=empty_of hs hE
    subst hbase
    ·have hok0:=qO (show l9 P elem e 1048576=true from hok)
     have hok':AppOk P elem e (0+len):=by
      rw [Nat.zero_add]
      obtain ⟨i,z,i1,i2,i3,i4⟩:=hok0.info
      exact ⟨hok0.pos,by omega,i,z,i1,Nat.le_trans (Nat.mul_le_mul_right _ (by omega)) i2,i3,i4⟩
     have hpos:=hok'.pos
     have hold:(Builtin.firstCells e 0 (.slice base 0 0)).run P { w with drawn:=w.drawn+1 } = .ok #[] { w with drawn:=w.drawn+1 }:=qV base
     have hxs:fH H e (.fz k a c len e)=some ⟨.fn (fun k=>some (c (Nat.div k e) (Nat.mod k e))),0,Nat.mul len e,len⟩:=by
      show cond (Nat.beq e e) _ _=_
      rw [aH,if_pos rfl]
     obtain ⟨hl,hxn,new,hn,hnz,hnc⟩:=mD (P:=P) hr hx hxs (fun g hg=>by cases hg)
     have hdr:Rel R S H { w with drawn:=w.drawn+1 }:=⟨hr.img,fun b o r d a c=>(hr.obj b o r d a c).mono (.refl R) c rfl id id,hr.inj,hr.frz⟩
     obtain ⟨_,_,new2,hn2,hnz2,hnc2⟩:=mD (P:=P) hdr hx hxs (fun g hg=>by cases hg)
     by_cases hm0:len=0
     ·subst hm0
      have hne:new=#[]:=by
       apply Array.eq_empty_of_size_eq_zero;rw [hnz];show 0*e=0;omega
      cases base with
      | none=>exact ⟨_,w,R,run_append_nil ht0 ht1 ha0 ha1 hu hu2 he hl (by simp) hn,.fzN,xw hr hw (hf _ (Nat.le_refl _) (Nat.lt_succ_self _)).1⟩
      | some a=>exact ⟨_,w,R,jg ht0 ht1 ha0 ha1 hu hu2 he hl (by simp) hn (w':=w) (by rw [hne];rfl),.fzE (fun q=>by cases q),xw hr hw (hf _ (Nat.le_refl _) (Nat.lt_succ_self _)).1⟩
     ·obtain ⟨nc,rest,k1,k2,k3⟩:=run_append_grow (P:=P) (ty:=ty) ht0 ht1 ha0 ha1 hu hu2 he hl (by show ¬ 0+len≤0;omega) hok' (old:=#[]) hold hn2
      obtain ⟨R',s1,s2,s3⟩:=KF (cs:=#[]++new2++rest) (t:=elem) (fz:=(0,0)) (w':={ w with drawn:=w.drawn+1,heap:=w.heap.push (.cells (#[]++new2++rest) elem) }) hdr hw (hf _ (Nat.le_refl _) (Nat.lt_succ_self _)) (WA.push _ _)
      have hnz2:new2.size=len*e:=hnz2
      have get:∀ i j,i<len→j<e→∃ b,new2[i*e+j]?=some b∧dE (c i j)=true∧VR R (c i j) b:=fun i j hi hj=>by
       have hlt:i*e+j<len*e:=by
        have:(i+1)*e≤len*e:=Nat.mul_le_mul_right _ hi
        rw [Nat.add_mul] at this;omega
       obtain ⟨a,b,z1,z2,z3,z4⟩:=hnc2 (i*e+j) hlt
       have z1:some (c ((0+(i*e+j))/e) ((0+(i*e+j))%e))=some a:=z1
       rw [Nat.zero_add,Nat.add_comm,Nat.add_mul_div_right _ _ hpos,Nat.add_mul_mod_self_right,Nat.div_eq_of_lt hj,Nat.mod_eq_of_lt hj,Nat.zero_add] at z1
       cases z1
       exact ⟨b,z3,z2,z4⟩
      refine ⟨_,_,R',by rw [k3];rfl,?_,s1.drawn⟩
      cases hx with
      | fzN=>exact absurd rfl hm0
      | fzE=>exact absurd rfl hm0
      | fz y hc hl2 hy hs ha hv h0 =>
       show VR R' (.fz true H.next c len e) (.slice (some ⟨w.heap.size,0,none⟩) (0+len) nc)
       rw [Nat.zero_add] at k1 ⊢
       refine .fz (fun i j=>if h:i<len∧j<e then (get i j h.1 h.2).choose else y i j) s2 k1 (fun i j hi hj=>?_) (fun i j hi hj=>hs i j hi hj) (fun i j hi hj=>(ha i j hi hj).mono hage) (fun i j hi hj=>?_)
       ·have hlt:i*e+j<len*e:=by
         have:(i+1)*e≤len*e:=Nat.mul_le_mul_right _ hi
         rw [Nat.add_mul] at this;omega
        show (#[]++new2++rest)[0+(i*e+j)]?=some (if h:i<len∧j<e then (get i j h.1 h.2).choose else y i j)
        rw [dif_pos ⟨hi,hj⟩,← (get i j hi hj).choose_spec.1,Nat.zero_add,Array.getElem?_append_left (by simp;omega)]
        simp
       ·show VR R' (c i j) (if h:i<len∧j<e then (get i j h.1 h.2).choose else y i j)
        rw [dif_pos ⟨hi,hj⟩]
        exact ((get i j hi hj).choose_spec.2.2).mono s3
   ·cases hok
 ·cases h
theorem Ew {R:Ren} {S:Nat→Prop} {H H':EH} {w:World} (hr:Rel R S H w) (hw:WF H) (hf:Free R H H') {ts:Array TypeId} {ty:TypeId} {args:Array Value} {st xt:TypeId} {s x v:V} {s' x':Value}
 (ht0:ts[0]?=some st) (ht1:ts[1]?=some xt) (ha0:args[0]?=some s') (ha1:args[1]?=some x') (hs:VR R s s') (hx:VR R x x') (h:jH P st xt s x H=some (v,H'))
 (hS:∀ g,g∈dM H s∨g∈dM H x→S g):∃ W:Nat→Prop,(∀ g,W g→g∈dM H s)∧Good P R S H w (Builtin.append_ ts ty args) v H' W:=by
 unfold jH at h
 split at h
 ·rename_i elem el2 hu hu2
  cases he:dm P elem with
  | none=>rw [he] at h;cases h
  | some e =>
   rw [he] at h
   simp only at h
   cases hk:Tj e s x with
   | false =>
    rw [hk] at h
    exact Na hr hw hf ht0 ht1 ha0 ha1 hs hx hu hu2 he h hS
   | true =>
    rw [hk] at h
    have h:cond (Nat.ble (qP x) 1048576) (I9 P elem e s x H) none=some (v,H'):=h
    rw [bg] at h
    split at h
    ·rename_i hle
     exact ⟨fun _=>False,fun _ h=>h.elim,Q5 hr hw hf ht0 ht1 ha0 ha1 hs hx hu hu2 he hle h⟩
    ·cases h
 ·cases h
end Go.Ev
/- Operations that leave the heap alone. -/
namespace Go.Ev
open Go
variable {P:Program}
theorem yh {β:Type} (n:Int) (k:Int→β):fI n k=k n:=by
 cases n with
 | ofNat a=>exact dA a fun a=>k (.ofNat a)
 | negSucc a=>exact dA a fun a=>k (.negSucc a)
theorem oQ (a b:Int):ai a b=decide (a≤b):=by
 cases a with
 | ofNat m=>cases b with
  | ofNat n =>
   show Nat.ble m n=_
   by_cases h:m≤n
   ·rw [Nat.ble_eq_true_of_le h,decide_eq_true (by simpa using h)]
   ·have:Nat.ble m n=false:=by cases e:Nat.ble m n with | false=>rfl | true=>exact absurd (Nat.le_of_ble_eq_true e) h
    rw [this,decide_eq_false (by simpa using h)]
  | negSucc n=>show false=_;rw [decide_eq_false (by rw [Int.ofNat_eq_natCast];omega)]
 | negSucc m=>cases b with
  | ofNat n=>show true=_;rw [decide_eq_true (by rw [Int.ofNat_eq_natCast];omega)]
  | negSucc n =>
   show Nat.ble n m=_
   by_cases h:n≤m
   ·rw [Nat.ble_eq_true_of_le h,decide_eq_true (by omega)]
   ·have:Nat.ble n m=false:=by cases e:Nat.ble n m with | false=>rfl | true=>exact absurd (Nat.le_of_ble_eq_true e) h
    rw [this,decide_eq_false (by omega)]
theorem Df (a b:Int):aK a b=decide (a=b):=by
 cases a with
 | ofNat m=>cases b with
  | ofNat n =>
   show Nat.beq m n=_;rw [rY]
   by_cases h:m=n
   ·simp [h]
   ·rw [decide_eq_false h,decide_eq_false (by intro e;exact h (Int.ofNat.inj e))]
  | negSucc n=>show false=_;rw [decide_eq_false (by rw [Int.ofNat_eq_natCast];omega)]
 | negSucc m=>cases b with
  | ofNat n=>show false=_;rw [decide_eq_false (by rw [Int.ofNat_eq_natCast];omega)]
  | negSucc n =>
   show Nat.beq m n=_;rw [rY]
   by_cases h:m=n
   ·simp [h]
   ·rw [decide_eq_false h,decide_eq_false (by omega)]
theorem wrap_small {n:Int} (h1 : -9223372036854775808≤n) (h2:n≤9223372036854775807):IntKind.wrap .i64 n=n:=IntWalk.i64_in n ⟨h1,h2⟩
theorem QA (k:IntKind) (n:Int):wr k n=k.wrap n:=by
 cases k<;>first | rfl | skip
 show cond (small n) n _=_
 cases hs:small n with
 | false=>rfl
 | true =>
  cases n with
  | ofNat a =>
   have:a≤9223372036854775807:=Nat.le_of_ble_eq_true hs
   show Int.ofNat a=_
   rw [Int.ofNat_eq_natCast]
   exact (wrap_small (by omega) (by omega)).symm
  | negSucc a =>
   have:a≤9223372036854775807:=Nat.le_of_ble_eq_true hs
   show Int.negSucc a=_
   exact (wrap_small (by omega) (by omega)).symm
theorem KT (k:IntKind) (n:Int):vI k n=some (.int k (k.wrap n)):=by unfold vI;rw [yh,QA]
theorem EW {a b:IntKind} (h:gz a b=true):a=b:=by cases a<;>cases b<;>first | rfl | cases h
theorem Ae (a b:Bool):iq a b=(a==b):=by cases a<;>cases b<;>rfl
def PR (P:Program) (R:Ren) (w:World) (s:Sem Value) (v:V):Prop:=∃ x,s.run P w = .ok x w∧VR R v x
theorem Nc {R:Ren} {w:World} {c x y v:V} {c' x' y':Value} {H H':EH} (hc:VR R c c') (hx:VR R x x') (hy:VR R y y') (h:oO c x y H=some (v,H')) :
 H'=H∧∃ z,(do pure (.value (if←asBool c' then x' else y')):Sem Next).run P w = .ok (.value z) w∧VR R v z:=by
 unfold oO at h
 split at h
 ·cases h;cases hc;exact ⟨rfl,x',rfl,hx⟩
 ·cases h;cases hc;exact ⟨rfl,y',rfl,hy⟩
 ·cases h
theorem IV {w:World} {op:BinOp} {k:IntKind} {a b:Int} {v:V} (h:nM op k a b=some v):∃ x,(match op with | .add | .sub | .mul=>Op.intArith op k a b | .quo | .rem=>Op.intDiv op k a b | .and | .or | .xor | .andNot=>Op.intBits op k a b | _=>Op.intCmp op a b).run P w = .ok x w∧∀ R,VR R v x:=by
 cases op<;>simp only [nM,bO,KT,yh,Df,oQ] at h<;>try (cases h;done)
 case add=>cases h;exact ⟨_,rfl,fun _ => .int _ _⟩
 case sub=>cases h;exact ⟨_,rfl,fun _ => .int _ _⟩
 case mul=>cases h;exact ⟨_,rfl,fun _ => .int _ _⟩
 case and=>cases h;exact ⟨_,rfl,fun _ => .int _ _⟩
 case or=>cases h;exact ⟨_,rfl,fun _ => .int _ _⟩
 case xor=>cases h;exact ⟨_,rfl,fun _ => .int _ _⟩
 case andNot=>cases h;exact ⟨_,rfl,fun _ => .int _ _⟩
 case quo =>
  by_cases e:b=0
  ·simp [e] at h
  ·simp [e] at h;cases h
   refine ⟨.int k (k.wrap (a.tdiv b)),?_,fun _ => .int _ _⟩
   show (Op.intDiv .quo k a b).run P w=_
   unfold Op.intDiv;rw [if_neg e];rfl
 case rem =>
  by_cases e:b=0
  ·simp [e] at h
  ·simp [e] at h;cases h
   refine ⟨.int k (a.tmod b),?_,fun _ => .int _ _⟩
   show (Op.intDiv .rem k a b).run P w=_
   unfold Op.intDiv;rw [if_neg e];rfl
 case eql =>
  cases h
  refine ⟨.bool (a==b),rfl,fun _=>?_⟩
  have:(a==b)=decide (a=b):=by by_cases e:a=b<;>simp [e]
  rw [this];exact .bool _
 case neq =>
  cases h
  refine ⟨.bool (a != b),rfl,fun _=>?_⟩
  have:(a != b) = !decide (a=b):=by by_cases e:a=b<;>simp [e]
  rw [this];exact .bool _
 case lss =>
  cases h
  refine ⟨.bool (decide (a<b)),rfl,fun _=>?_⟩
  have:decide (a<b) = !decide (b≤a):=by by_cases e:a<b<;>simp [e]<;>omega
  rw [this];exact .bool _
 case leq=>cases h;exact ⟨.bool (decide (a≤b)),rfl,fun _ => .bool _⟩
 case gtr =>
  cases h
  refine ⟨.bool (decide (a>b)),rfl,fun _=>?_⟩
  have:decide (a>b) = !decide (a≤b):=by by_cases e:a>b<;>simp [e]<;>omega
  rw [this];exact .bool _
 case geq=>cases h;exact ⟨.bool (decide (a≥b)),rfl,fun _ => .bool _⟩
theorem Bh {w:World} {op:BinOp} {k k':IntKind} {a b:Int} {v:V} (h:Ak op k a b=some v):∃ x,(Op.shift op k a k' b).run P w = .ok x w∧∀ R,VR R v x:=by
 cases op<;>simp only [Ak,yh,oQ] at h<;>try (cases h;done)
 case shl =>
  by_cases e:0≤b
  ·simp [e] at h;cases h
   refine ⟨.int k (k.wrap (a*2^(min b.toNat k.bits))),?_,fun _ => .int _ _⟩
   unfold Op.shift;rw [if_neg (by omega)];rfl
  ·simp [e] at h
 case shr =>
  by_cases e:0≤b
  ·simp [e] at h;cases h
   refine ⟨.int k (a.fdiv (2^(min b.toNat k.bits))),?_,fun _ => .int _ _⟩
   unfold Op.shift;rw [if_neg (by omega)];rfl
  ·simp [e] at h
theorem Nk {w:World} {op:BinOp} {t:TypeId} {k k':IntKind} {a b:Int} {v:V} (h:cond (gz k k') (nM op k a b) none=some v) (n1:op ≠ .shl) (n2:op ≠ .shr):∃ x,(binOp op t (.int k a) (.int k' b)).run P w = .ok x w∧∀ R,VR R v x:=by
 cases hk:gz k k' with
 | false=>rw [hk] at h;cases h
 | true =>
  rw [hk] at h
  have h2:nM op k a b=some v:=h
  clear h
  have hkk:=EW hk
  subst hkk
  obtain ⟨x,e1,e2⟩:=IV (P:=P) (w:=w) h2
  refine ⟨x,?_,e2⟩
  rw [← e1]
  cases op<;>first | (exact absurd rfl n1) | (exact absurd rfl n2) | (simp [binOp])
theorem QX {w:World} {op:BinOp} {t:TypeId} {k k':IntKind} {a b:Int} {v:V} (h:U0 op k a k' b=some v):∃ x,(binOp op t (.int k a) (.int k' b)).run P w = .ok x w∧∀ R,VR R v x:=by
 cases op
 case shl=>exact Bh (k':=k') (show Ak .shl k a b=some v from h)
 case shr=>exact Bh (k':=k') (show Ak .shr k a b=some v from h)
 all_goals exact Nk h (by simp) (by simp)
end Go.Ev
/- '==' and '!='. -/
namespace Go.Ev
open Go
variable {P:Program}
theorem yl {t:TypeId} (h:fk P t = .int):∃ k,P.underlying t=some (.int k):=by
 unfold fk at h
 split at h
 ·rename_i k e;exact ⟨k,e⟩
 ·cases h
 ·cases h
theorem rM {t:TypeId} (h:fk P t = .bool):P.underlying t=some .bool:=by
 unfold fk at h
 split at h
 ·cases h
 ·rename_i e;exact e
 ·cases h
theorem o5 {k:FK} {x y:V} {b:Bool} (h:eqK k (some x) (some y)=some b) :
 (k = .int∧∃ q m n,x = .int q m∧y = .int q n∧b=decide (m=n))∨(k = .bool∧∃ m n,x = .bool m∧y = .bool n∧b=(m==n)):=by
 unfold eqK at h
 split at h
 ·rename_i q m q' n e1 e2
  cases hk:gz q q' with
  | false=>rw [hk] at h;cases h
  | true =>
   rw [hk] at h
   have:=EW hk
   subst this
   injection e1 with e1;injection e2 with e2
   subst e1;subst e2
   refine .inl ⟨rfl,q,m,n,rfl,rfl,?_⟩
   have h2:some (aK m n)=some b:=h
   injection h2 with h2
   rw [← h2,Df]
 ·rename_i m n e1 e2
  injection e1 with e1;injection e2 with e2
  subst e1;subst e2
  refine .inr ⟨rfl,m,n,rfl,rfl,?_⟩
  injection h with h
  rw [← h,Ae]
 ·cases h
theorem wJ {R:Ren} {w:World} {t:TypeId} {d:Nat} {x y:V} {x' y':Value} (hx:VR R x x') (hy:VR R y y') {b:Bool} (h:eqK (fk P t) (some x) (some y)=some b):(Op.equalIn (d+1) t x' y').run P w = .ok b w:=by
 rcases o5 h with ⟨e,q,m,n,rfl,rfl,rfl⟩ | ⟨e,m,n,rfl,rfl,rfl⟩
 ·obtain ⟨k,hk⟩:=yl e
  cases hx;cases hy
  rw [run_equalIn_int w d t q k m n hk]
  rfl
 ·have hk:=rM e
  cases hx;cases hy
  exact run_equalIn_bool' w d t m n hk
theorem gY {t:TypeId} (h:iJ P t=true):(∀ w,(isAgg t).run P w = .ok false w)∧P.cellsOf t=1∧∃ d,P.underlying t=some d:=by
 unfold iJ at h
 split at h
 ·cases h
 ·rename_i k hk
  have h1:P.cellsOf t=1:=by rw [rY] at h;simpa using h
  cases e:fk P t with
  | int=>obtain ⟨k,hk⟩:=yl e;exact ⟨fun w=>kC hk w,h1,_,hk⟩
  | bool=>have hk:=rM e;exact ⟨fun w=>kC hk w,h1,_,hk⟩
  | no=>exact absurd e hk
theorem iE {t:TypeId} (h:iJ P t=true) {cs:Array Value} {i:Nat} {y:Value} (hy:cs[i]?=some y) (w:World):(part t cs i).run P w = .ok y w:=by
 unfold part
 rw [run_bind_ok ((gY h).1 w)]
 simp only [Bool.false_eq_true,if_false]
 rw [hy];rfl
theorem vg {f : Field} {l : List Field} {i : Nat} (h : oV P (f :: l) i = true) : iJ P f.type = true ∧ f.name ≠ "_" ∧ f.offset = i ∧ oV P l (i + 1) = true := by
  have h' : cond (iJ P f.type) (cond (decide (f.name ≠ "_")) (cond (Nat.beq f.offset i) (oV P l (i + 1)) false) false) false = true := h
  cases h1:iJ P f.type with
  | false=>rw [h1] at h';cases h'
  | true =>
    rw [h1] at h'
    cases h2 : decide (f.name ≠ "_") with
    | false=>rw [h2] at h';cases h'
    | true =>
      rw [h2] at h'
      simp only [cond_true,aH] at h'
      split at h'
      · rename_i e;exact ⟨rfl,of_decide_eq_true h2,e,h'⟩
      · cases h'
theorem Rw {R:Ren} {w:World} {n:Nat} {c d:T V} {xs ys:Array Value} (hc:CR R n c xs) (hd:CR R n d ys) (dd:Nat):∀ (l:List Field) (i:Nat),oV P l i=true→i+l.length≤n→∀ r,yN P l c d i=some r→(Op.eqFields (dd+1) xs ys l).run P w = .ok r w:=by
 intro l
 induction l with
 | nil=>intro i _ _ r h;cases h;rfl
 | cons f l ih =>
  intro i hf hn r h
  obtain ⟨f1,f2,f3,f4⟩:=vg hf
  simp only [List.length_cons] at hn
  have h':(match eqK (fk P f.type) (c.get i) (d.get i) with | some true=>yN P l c d (i+1) | r=>r)=some r:=h
  cases hk:eqK (fk P f.type) (c.get i) (d.get i) with
  | none=>rw [hk] at h';cases h'
  | some b =>
   rw [hk] at h'
   obtain ⟨x,y,a1,a2,a3,a4⟩:=hc.2 i (by omega)
   obtain ⟨x2,y2,b1,b2,b3,b4⟩:=hd.2 i (by omega)
   rw [a1,b1] at hk
   have e3:=wJ (P:=P) (w:=w) (d:=dd) a4 b4 hk
   unfold Op.eqFields
   rw [if_pos f2,f3,run_bind_ok (iE f1 a3 w),run_bind_ok (iE f1 b3 w),run_bind_ok e3]
   cases b with
   | false=>cases h';rfl
   | true=>exact ih (i+1) f4 (by omega) r h'
theorem Sl {R:Ren} {w:World} {n:Nat} {c d:T V} {xs ys:Array Value} (hc:CR R n c xs) (hd:CR R n d ys) (dd:Nat) {e:TypeId} (he:iJ P e=true):∀ (m i:Nat),i+m≤n→∀ r,CB (fk P e) c d m i=some r→(Op.eqItems (dd+1) e (P.cellsOf e) xs ys (List.range' i m)).run P w = .ok r w:=by
 intro m
 induction m with
 | zero=>intro i _ r h;cases h;rfl
 | succ m ih =>
  intro i hn r h
  have h':(match eqK (fk P e) (c.get i) (d.get i) with | some true=>CB (fk P e) c d m (i+1) | r=>r)=some r:=h
  cases hk:eqK (fk P e) (c.get i) (d.get i) with
  | none=>rw [hk] at h';cases h'
  | some b =>
   rw [hk] at h'
   obtain ⟨x,y,a1,a2,a3,a4⟩:=hc.2 i (by omega)
   obtain ⟨x2,y2,b1,b2,b3,b4⟩:=hd.2 i (by omega)
   rw [a1,b1] at hk
   have e3:=wJ (P:=P) (w:=w) (d:=dd) a4 b4 hk
   rw [List.range'_succ]
   unfold Op.eqItems
   rw [(gY he).2.1,Nat.mul_one,run_bind_ok (iE he a3 w),run_bind_ok (iE he b3 w),run_bind_ok e3]
   cases b with
   | false=>cases h';rfl
   | true =>
    have:=ih (i+1) (by omega) r h'
    rw [(gY he).2.1] at this
    exact this
theorem qF {t:TypeId} {fs:Array Field} {n:Nat} (h:qA P t fs n=true):fs.size=n∧oV P fs.toList 0=true∧P.stoodInHeld t=false:=by
 unfold qA at h
 rw [aH] at h
 split at h
 ·rename_i e
  cases h1:oV P fs.toList 0 with
  | false=>rw [h1] at h;cases h
  | true=>rw [h1] at h;refine ⟨e,rfl,?_⟩;have h2:(!P.stoodInHeld t)=true:=h;simpa using h2
 ·cases h
theorem H9 {e:TypeId} {len n:Nat} (h:Bg P e len n=true):len=n∧iJ P e=true:=by
 unfold Bg at h
 rw [aH] at h
 split at h
 ·rename_i q;exact ⟨q,h⟩
 ·cases h
theorem vO {t:TypeId} {fs:Array Field} (h:P.underlying t=some (.struct fs)):P.fieldsOf t=fs:=by unfold Program.fieldsOf;rw [h]
def CO (R:Ren) (s:Nat) (c:T V) (off:Nat) (xs:Array Value):Prop:=xs.size=s∧∀ i,i<s→∃ x y,c.get (off+i)=some x∧dE x=true∧xs[i]?=some y∧VR R x y
theorem CO.sub {R:Ren} {s off:Nat} {c:T V} {xs:Array Value} (h:CO R s c off xs) {o s':Nat} (hs:o+s'≤s):CO R s' c (off+o) (xs.extract o (o+s')):=by
 refine ⟨by simp [h.1];omega,fun i hi=>?_⟩
 obtain ⟨x,y,a1,a2,a3,a4⟩:=h.2 (o+i) (by omega)
 refine ⟨x,y,by rw [Nat.add_assoc];exact a1,a2,?_,a4⟩
 rw [Array.getElem?_extract,if_pos (by rw [h.1];omega)];exact a3
theorem CO.of {R:Ren} {n:Nat} {c:T V} {xs:Array Value} (h:CR R n c xs):CO R n c 0 xs:=⟨h.1,fun i hi=>by rw [Nat.zero_add];exact h.2 i hi⟩
theorem QU {t:TypeId} {d:TypeDesc} (h:P.underlying t=some d):∃ i,P.info? t=some i:=by
 unfold Program.underlying at h
 cases q:P.info? t with
 | none=>rw [q] at h;cases h
 | some i=>exact ⟨i,rfl⟩
def FI (d:TypeDesc):Bool:=match d with | .struct _=>true | .array _ _=>true | _=>false
theorem Ol {t:TypeId} {d:TypeDesc} (h:P.underlying t=some d) (w:World):(isAgg t).run P w = .ok (FI d) w:=by
 have:=kC h w
 cases d<;>exact this
theorem kz {t:TypeId} {d:TypeDesc} (h:P.underlying t=some d) (ha:FI d=true) (xs:Array Value) (o:Nat) (w:World):(part t xs o).run P w = .ok (.agg (xs.extract o (o+P.cellsOf t))) w:=by
 obtain ⟨i,hi⟩:=QU h
 unfold part
 rw [run_bind_ok (Ol h w),ha]
 simp only [if_true]
 rw [run_bind_ok (run_sizeOf w hi)]
 rfl
theorem Nl (m:Nat) (t:TypeId):mg P (m+1) t=(match P.underlying t with
 | some (.struct fs)=>cond (P.stoodInHeld t) false (match wu (mg P m) P fs.toList 0 with | some n=>Nat.beq n (P.cellsOf t) | none=>false)
 | some (.array len e)=>cond (mg P m e) (cond (Nat.beq (Nat.mul len (P.cellsOf e)) (P.cellsOf t)) (PO P e) false) false
 | _=>iJ P t):=rfl
theorem xZ (c d:T V) (m:Nat) (t:TypeId) (off:Nat):vP P c d (m+1) t off=(match P.underlying t with
 | some (.struct fs)=>JB (vP P c d m) off fs.toList
 | some (.array len e)=>JC (vP P c d m e) (P.cellsOf e) len off
 | _=>eqK (fk P t) (c.get off) (d.get off)):=rfl
theorem qf {f : TypeId → Bool} {x : Field} {l : List Field} {i n : Nat} (h : wu f P (x :: l) i = some n) : x.name ≠ "_" ∧ x.offset = i ∧ f x.type = true ∧ wu f P l (i + P.cellsOf x.type) = some n := by
  have h : cond (decide (x.name ≠ "_")) (cond (Nat.beq x.offset i) (cond (f x.type) (wu f P l (i + P.cellsOf x.type)) none) none) none = some n := h
  cases h1 : decide (x.name ≠ "_") with
  | false=>rw [h1] at h;cases h
  | true =>
    rw [h1] at h
    simp only [cond_true,aH] at h
    split at h
    · rename_i e
      cases h2:f x.type with
      | false=>rw [h2] at h;cases h
      | true=>rw [h2] at h;exact ⟨of_decide_eq_true h1,e,rfl,h⟩
    · cases h
theorem CJ {f:TypeId→Bool}:∀ {l:List Field} {i n:Nat},wu f P l i=some n→i≤n
 | [],i,n,h=>by cases h;exact Nat.le_refl _
 | x::l,i,n,h=>by
  obtain ⟨_,_,_,h4⟩:=qf h
  have:=CJ h4
  omega
theorem kT {m:Nat} {t:TypeId} (h:mg P (m+1) t=true):(iJ P t=true∧(∀ c d off,vP P c d (m+1) t off=eqK (fk P t) (c.get off) (d.get off))) ∨
 (∃ fs n,P.underlying t=some (.struct fs)∧P.stoodInHeld t=false∧wu (mg P m) P fs.toList 0=some n∧n=P.cellsOf t∧∀ c d off,vP P c d (m+1) t off=JB (vP P c d m) off fs.toList) ∨
 ∃ len e i,P.underlying t=some (.array len e)∧mg P m e=true∧len*P.cellsOf e=P.cellsOf t∧P.info? e=some i∧∀ c d off,vP P c d (m+1) t off=JC (vP P c d m e) (P.cellsOf e) len off:=by
 rw [Nl] at h
 split at h
 ·rename_i fs hu
  cases hs:P.stoodInHeld t with
  | true=>rw [hs] at h;cases h
  | false =>
   rw [hs] at h
   have h:(match wu (mg P m) P fs.toList 0 with | some n=>Nat.beq n (P.cellsOf t) | none=>false)=true:=h
   cases hl:wu (mg P m) P fs.toList 0 with
   | none=>rw [hl] at h;cases h
   | some n =>
    rw [hl] at h
    exact .inr (.inl ⟨fs,n,hu,rfl,hl,Nat.eq_of_beq_eq_true h,fun c d off=>by rw [xZ,hu]⟩)
 ·rename_i len e hu
  cases h1:mg P m e with
  | false=>rw [h1] at h;cases h
  | true =>
   rw [h1] at h
   simp only [cond_true,aH] at h
   split at h
   ·rename_i q
    cases hi:P.info? e with
    | none=>unfold PO at h;rw [hi] at h;cases h
    | some i=>exact .inr (.inr ⟨len,e,i,hu,h1,q,hi,fun c d off=>by rw [xZ,hu]⟩)
   ·cases h
 ·rename_i h1 h2
  refine .inl ⟨h,fun c d off=>?_⟩
  rw [xZ]
  split
  ·rename_i fs hu;exact absurd hu (h1 fs)
  ·rename_i len e hu;exact absurd hu (h2 len e)
  ·rfl
def EqP (P:Program) (R:Ren) (w:World) (c d:T V) (dd m:Nat):Prop:=∀ (t:TypeId) (off s:Nat) (xs ys:Array Value) (r:Bool) (o:Nat),mg P m t=true→o+P.cellsOf t≤s→CO R s c off xs→CO R s d off ys→vP P c d m t (off+o)=some r →
 ∃ x' y',(part t xs o).run P w = .ok x' w∧(part t ys o).run P w = .ok y' w∧(Op.equalIn (dd+m) t x' y').run P w = .ok r w
theorem O4 {R:Ren} {w:World} {c d:T V} {dd m:Nat} (H:EqP P R w c d dd m) {off s:Nat} {xs ys:Array Value} (hx:CO R s c off xs) (hy:CO R s d off ys):∀ (l:List Field) (i n:Nat),wu (mg P m) P l i=some n→n≤s→∀ r,JB (vP P c d m) off l=some r→(Op.eqFields (dd+m) xs ys l).run P w = .ok r w:=by
 intro l
 induction l with
 | nil=>intro i n _ _ r h;cases h;rfl
 | cons f l ih =>
  intro i n hl hn r h
  obtain ⟨f1,f2,f3,f4⟩:=qf hl
  have hle:=CJ f4
  have h:(match vP P c d m f.type (off+f.offset) with | some true=>JB (vP P c d m) off l | r=>r)=some r:=h
  cases hk:vP P c d m f.type (off+f.offset) with
  | none=>rw [hk] at h;cases h
  | some b =>
   rw [hk] at h
   obtain ⟨x',y',e1,e2,e3⟩:=H f.type off s xs ys b f.offset f3 (by omega) hx hy hk
   unfold Op.eqFields
   rw [if_pos f1,run_bind_ok e1,run_bind_ok e2,run_bind_ok e3]
   cases b with
   | false=>cases h;rfl
   | true=>exact ih _ n f4 hn r h
theorem OJ {R:Ren} {w:World} {c d:T V} {dd m:Nat} (H:EqP P R w c d dd m) {off s:Nat} {xs ys:Array Value} (hx:CO R s c off xs) (hy:CO R s d off ys) {e:TypeId} (he:mg P m e=true):∀ (k i:Nat),(i+k)*P.cellsOf e≤s→∀ r,JC (vP P c d m e) (P.cellsOf e) k (off+i*P.cellsOf e)=some r →
 (Op.eqItems (dd+m) e (P.cellsOf e) xs ys (List.range' i k)).run P w = .ok r w:=by
 intro k
 induction k with
 | zero=>intro i _ r h;cases h;rfl
 | succ k ih =>
  intro i hn r h
  have h:(match vP P c d m e (off+i*P.cellsOf e) with | some true=>JC (vP P c d m e) (P.cellsOf e) k (off+i*P.cellsOf e+P.cellsOf e) | r=>r)=some r:=h
  cases hk:vP P c d m e (off+i*P.cellsOf e) with
  | none=>rw [hk] at h;cases h
  | some b =>
   rw [hk] at h
   have hle:i*P.cellsOf e+P.cellsOf e≤s:=by
    have:(i+1)*P.cellsOf e≤(i+(k+1))*P.cellsOf e:=Nat.mul_le_mul_right _ (by omega)
    rw [Nat.succ_mul] at this;omega
   obtain ⟨x',y',e1,e2,e3⟩:=H e off s xs ys b (i*P.cellsOf e) he hle hx hy hk
   rw [List.range'_succ]
   unfold Op.eqItems
   rw [run_bind_ok e1,run_bind_ok e2,run_bind_ok e3]
   cases b with
   | false=>cases h;rfl
   | true=>exact ih (i+1) (by rw [show i+1+k=i+(k+1) by omega];exact hn) r (by rw [Nat.succ_mul,← Nat.add_assoc];exact h)
theorem pg {R:Ren} {w:World} {c d:T V} {dd m:Nat} (H:EqP P R w c d dd m) {t:TypeId} {off:Nat} {xs ys:Array Value} {r:Bool} (hl:mg P (m+1) t=true) (ha:iJ P t=false) (hx:CO R (P.cellsOf t) c off xs) (hy:CO R (P.cellsOf t) d off ys) (h:vP P c d (m+1) t off=some r) :
 (Op.equalIn (dd+(m+1)) t (.agg xs) (.agg ys)).run P w = .ok r w:=by
 rcases kT hl with ⟨q,_⟩ | ⟨fs,n,hu,hs,hf,hn,he⟩ | ⟨len,e,i,hu,h1,h2,hi,he⟩
 ·rw [ha] at q;cases q
 ·rw [he] at h
  have hfo:=vO hu
  rw [show dd+(m+1)=(dd+m)+1 by omega,run_equalIn_struct w (dd+m) t xs ys (by rw [hfo];exact hu) hs,hfo]
  exact O4 H hx hy fs.toList 0 n hf (by omega) r h
 ·rw [he] at h
  rw [show dd+(m+1)=(dd+m)+1 by omega,run_equalIn_array w (dd+m) xs ys hu hi,List.range_eq_range']
  exact OJ H hx hy h1 len 0 (by rw [Nat.zero_add,h2];exact Nat.le_refl _) r (by rw [Nat.zero_mul];exact h)
theorem jZ {t:TypeId} {d:TypeDesc} (h:P.underlying t=some d) (ha:FI d=true):iJ P t=false:=by
 have:fk P t = .no:=by
  unfold fk
  rw [h]
  cases d<;>first | rfl | cases ha
 unfold iJ
 rw [this]
theorem UN {R:Ren} {w:World} {c d:T V} {dd:Nat}:∀ m,EqP P R w c d dd m:=by
 intro m
 induction m with
 | zero=>intro t off s xs ys r o hl;cases hl
 | succ m ih =>
  intro t off s xs ys r o hl hs hx hy h
  rcases kT hl with ⟨hf,he⟩ | ⟨fs,n,hu,_⟩ | ⟨len,e,i,hu,_⟩
  ·rw [he] at h
   have hc:=(gY hf).2.1
   obtain ⟨x,y,a1,a2,a3,a4⟩:=hx.2 o (by omega)
   obtain ⟨x2,y2,b1,b2,b3,b4⟩:=hy.2 o (by omega)
   rw [a1,b1] at h
   exact ⟨y,y2,iE hf a3 w,iE hf b3 w,wJ (P:=P) (w:=w) (d:=dd+m) a4 b4 h⟩
  ·exact ⟨_,_,kz hu rfl xs o w,kz hu rfl ys o w,pg ih hl (jZ hu rfl) (hx.sub hs) (hy.sub hs) h⟩
  ·exact ⟨_,_,kz hu rfl xs o w,kz hu rfl ys o w,pg ih hl (jZ hu rfl) (hx.sub hs) (hy.sub hs) h⟩
theorem oh {t:TypeId} {n:Nat} (h:iM P t n=true):P.cellsOf t=n∧mg P 4 t=true:=by
 unfold iM at h
 rw [aH] at h
 split at h
 ·rename_i e;exact ⟨e,h⟩
 ·cases h
theorem Fz {R:Ren} {w:World} {n:Nat} {c d:T V} {xs ys:Array Value} (hc:CR R n c xs) (hd:CR R n d ys) {t:TypeId} {r:Bool} {td:TypeDesc} (hu:P.underlying t=some td) (ha:FI td=true) (h:cond (iM P t n) (vP P c d 4 t 0) none=some r) (dd:Nat) (hdd:2≤dd):(Op.equalIn (dd+2) t (.agg xs) (.agg ys)).run P w = .ok r w:=by
 cases hk:iM P t n with
 | false=>rw [hk] at h;cases h
 | true =>
  rw [hk] at h
  obtain ⟨e,hl⟩:=oh hk
  subst e
  rw [show dd+2=(dd-2)+(3+1) by omega]
  exact pg (UN 3) hl (jZ hu ha) (.of hc) (.of hd) h
theorem Qx {f:TypeId→Bool} {g:TypeId→Nat→Option Bool} {c d:T V} (hg:∀ t off,f t=true→g t off=some true→∀ j,j<P.cellsOf t→∃ k,eqK k (c.get (off+j)) (d.get (off+j))=some true) (off:Nat):∀ (l:List Field) (i n:Nat),wu f P l i=some n→JB g off l=some true →
 ∀ j,i≤j→j<n→∃ k,eqK k (c.get (off+j)) (d.get (off+j))=some true:=by
 intro l
 induction l with
 | nil=>intro i n h _ j h1 h2;cases h;omega
 | cons x l ih =>
  intro i n hl h j h1 h2
  obtain ⟨_,f2,f3,f4⟩:=qf hl
  have h:(match g x.type (off+x.offset) with | some true=>JB g off l | r=>r)=some true:=h
  cases hk:g x.type (off+x.offset) with
  | none=>rw [hk] at h;cases h
  | some b =>
   rw [hk] at h
   cases b with
   | false=>cases h
   | true =>
    by_cases hj:j<i+P.cellsOf x.type
    ·have:=hg x.type _ f3 hk (j-i) (by omega)
     rw [f2,show off+i+(j-i)=off+j by omega] at this
     exact this
    ·exact ih _ n f4 h j (by omega) h2
theorem OM {g:Nat→Option Bool} {s:Nat} {c d:T V} (hg:∀ off,g off=some true→∀ j,j<s→∃ k,eqK k (c.get (off+j)) (d.get (off+j))=some true):∀ (k off:Nat),JC g s k off=some true→∀ j,j<k*s→∃ k,eqK k (c.get (off+j)) (d.get (off+j))=some true:=by
 intro k
 induction k with
 | zero=>intro off _ j hj;rw [Nat.zero_mul] at hj;omega
 | succ k ih =>
  intro off h j hj
  have h:(match g off with | some true=>JC g s k (off+s) | r=>r)=some true:=h
  cases hk:g off with
  | none=>rw [hk] at h;cases h
  | some b =>
   rw [hk] at h
   cases b with
   | false=>cases h
   | true =>
    by_cases hs:j<s
    ·exact hg off hk j hs
    ·rw [Nat.succ_mul] at hj
     have:=ih (off+s) h (j-s) (by omega)
     rw [show off+s+(j-s)=off+j by omega] at this
     exact this
theorem UF {c d:T V}:∀ (m:Nat) (t:TypeId) (off:Nat),mg P m t=true→vP P c d m t off=some true→∀ j,j<P.cellsOf t→∃ k,eqK k (c.get (off+j)) (d.get (off+j))=some true:=by
 intro m
 induction m with
 | zero=>intro t off hl;cases hl
 | succ m ih =>
  intro t off hl h j hj
  rcases kT hl with ⟨hf,he⟩ | ⟨fs,n,hu,_,hlf,hn,he⟩ | ⟨len,e,i,hu,h1,h2,_,he⟩
  ·rw [he] at h
   have hc:=(gY hf).2.1
   have:j=0:=by omega
   subst this
   exact ⟨_,h⟩
  ·rw [he] at h
   exact Qx (fun t off a b=>ih t off a b) off fs.toList 0 n hlf h j (Nat.zero_le _) (by omega)
  ·rw [he] at h
   exact OM (fun off b=>ih e off h1 b) len off h j (by omega)
theorem zX {R:Ren} {w:World} {n:Nat} {c d:T V} {xs ys:Array Value} (hc:CR R n c xs) (hd:CR R n d ys) {t:TypeId} {r:Bool} (h:jq P t n c d=some r) (dd:Nat) (hdd:2≤dd):(Op.equalIn (dd+2) t (.agg xs) (.agg ys)).run P w = .ok r w:=by
 unfold jq at h
 split at h
 ·rename_i fs hu
  cases hf:qA P t fs n with
  | false=>rw [hf] at h;exact Fz hc hd hu rfl h dd hdd
  | true =>
   rw [hf] at h
   obtain ⟨h1,h2,h3⟩:=qF hf
   have hfo:=vO hu
   rw [run_equalIn_struct w (dd+1) t xs ys (by rw [hfo];exact hu) h3,hfo]
   exact Rw hc hd dd fs.toList 0 h2 (by simpa using Nat.le_of_eq h1) r h
 ·rename_i len e hu
  cases hf:Bg P e len n with
  | false=>rw [hf] at h;exact Fz hc hd hu rfl h dd hdd
  | true =>
   rw [hf] at h
   obtain ⟨h1,h2⟩:=H9 hf
   subst h1
   have hi:∃ i,P.info? e=some i:=by
    obtain ⟨d,hd⟩:=(gY h2).2.2
    unfold Program.underlying at hd
    cases q:P.info? e with
    | none=>rw [q] at hd;cases hd
    | some i=>exact ⟨i,rfl⟩
   obtain ⟨i,hi⟩:=hi
   rw [run_equalIn_array w (dd+1) xs ys hu hi,List.range_eq_range']
   exact Sl hc hd dd h2 len 0 (by omega) r h
 ·cases h
theorem x9 {op:BinOp} {r:Option Bool} {v:V} (h:eqV op r=some v):∃ b,r=some b∧((op = .eql∧v = .bool b)∨(op = .neq∧v = .bool (!b))):=by
 unfold eqV at h
 cases r with
 | none=>cases h
 | some b =>
  cases op<;>first | (cases h;done) | skip
  ·cases h;exact ⟨b,rfl,.inl ⟨rfl,rfl⟩⟩
  ·cases h;exact ⟨b,rfl,.inr ⟨rfl,rfl⟩⟩
theorem xy {w:World} {op:BinOp} {t:TypeId} {x y:Value} {b:Bool} {v:V} (hv:(op = .eql∧v = .bool b)∨(op = .neq∧v = .bool (!b))) (h:(Op.equal t x y).run P w = .ok b w)
 (h1:binOp .eql t x y=(do pure (.bool (← Op.equal t x y)))) (h2:binOp .neq t x y=(do pure (.bool (!(← Op.equal t x y))))):∃ z,(binOp op t x y).run P w = .ok z w∧∀ R,VR R v z:=by
 rcases hv with ⟨rfl,rfl⟩ | ⟨rfl,rfl⟩
 ·refine ⟨.bool b,?_,fun _ => .bool _⟩
  rw [h1,run_bind_ok h];rfl
 ·refine ⟨.bool (!b),?_,fun _ => .bool _⟩
  rw [h2,run_bind_ok h];rfl
theorem qK {w:World} {op:BinOp} {t:TypeId} {x y:Operand} {a b:Value} (h1:∀ c d,a ≠ .agg c∨b ≠ .agg d) (h2:a ≠ .nilIface∨b ≠ .nilIface):(eqGuard op t x y a b).run P w = .ok () w:=by
 unfold eqGuard
 cases op<;>first | rfl | skip
 all_goals
  simp only [Bool.not_true,Bool.false_eq_true,if_false]
  split
  ·rcases h2 with h | h<;>exact absurd rfl h
  ·rename_i c d;rcases h1 c d with h | h<;>exact absurd rfl h
  ·rfl
theorem uX {t:TypeId}:(FV P t = .sl→∃ e,P.underlying t=some (.slice e))∧(FV P t = .mp→∃ k e,P.underlying t=some (.map k e))∧(FV P t = .pt→∃ e,P.underlying t=some (.pointer e))∧(FV P t = .fn→∃ a b c,P.underlying t=some (.func a b c)):=by
 unfold FV
 refine ⟨fun h=>?_,fun h=>?_,fun h=>?_,fun h=>?_⟩<;>split at h<;>first | (cases h;done) | skip
 ·rename_i e q;exact ⟨e,q⟩
 ·rename_i k e q;exact ⟨k,e,q⟩
 ·rename_i e q;exact ⟨e,q⟩
 ·rename_i a b c q;exact ⟨a,b,c,q⟩
theorem LU {w:World} {t e:TypeId} (hu:P.underlying t=some (.slice e)) (d:Nat) (p q:Option Addr) (a b c f:Nat) (h:p=none∨q=none):(Op.equalIn (d+1) t (.slice p a b) (.slice q c f)).run P w = .ok (p.isNone&&q.isNone) w:=by
 rcases h with rfl | rfl
 ·simp [Op.equalIn,aB hu]
 ·cases p<;>simp [Op.equalIn,aB hu]
theorem NL {w:World} {t k e:TypeId} (hu:P.underlying t=some (.map k e)) (d:Nat) (p q:Option Nat) (h:p=none∨q=none):(Op.equalIn (d+1) t (.map p) (.map q)).run P w = .ok (p.isNone&&q.isNone) w:=by
 rcases h with rfl | rfl
 ·simp [Op.equalIn,aB hu]
 ·cases p<;>simp [Op.equalIn,aB hu]
theorem L8 {w:World} {t e:TypeId} (hu:P.underlying t=some (.pointer e)) (d:Nat) (p q:Option Addr) (h:p=none∨q=none):(Op.equalIn (d+1) t (.pointer p) (.pointer q)).run P w = .ok (p.isNone&&q.isNone) w:=by
 rcases h with rfl | rfl
 ·simp [Op.equalIn,aB hu]
 ·cases p<;>simp [Op.equalIn,aB hu]
theorem IG {w:World} {t:TypeId} {x y:Array TypeId} {z:Bool} (hu:P.underlying t=some (.func x y z)) (d:Nat):(Op.equalIn (d+1) t .nilFunc .nilFunc).run P w = .ok true w:=by simp [Op.equalIn,aB hu]
theorem Jw {w:World} {t:TypeId} {x y:Array TypeId} {z:Bool} (hu:P.underlying t=some (.func x y z)) (d:Nat) (f:Fn) (l m:Array Value):(Op.equalIn (d+1) t .nilFunc (.func f l m)).run P w = .ok false w:=by simp [Op.equalIn,aB hu]
theorem IR {w:World} {t:TypeId} {x y:Array TypeId} {z:Bool} (hu:P.underlying t=some (.func x y z)) (d:Nat) (f:Fn) (l m:Array Value):(Op.equalIn (d+1) t (.func f l m) .nilFunc).run P w = .ok false w:=by simp [Op.equalIn,aB hu]
theorem LQ {R:Ren} {w:World} {t:TypeId} {x y:V} {x' y':Value} (hx:VR R x x') (hy:VR R y y') {b:Bool} (h:Q7 (FV P t) x y=some b) :
 (Op.equal t x' y').run P w = .ok b w∧binOp .eql t x' y'=(do pure (.bool (← Op.equal t x' y')))∧binOp .neq t x' y'=(do pure (.bool (!(← Op.equal t x' y'))))∧(∀ c,x' ≠ .agg c)∧x' ≠ .nilIface:=by
 obtain ⟨n1,n2,n3,n4⟩:=uX (P:=P) (t:=t)
 unfold Q7 at h
 split at h<;>first | (cases h;done) | skip
 all_goals (cases h;rename_i hk;cases hx;cases hy)
 all_goals first
  | (obtain ⟨e,hu⟩:=n1 hk;exact ⟨LU hu 9999 _ _ _ _ _ _ (by simp),rfl,rfl,fun c=>by simp,by simp⟩)
  | (obtain ⟨k,e,hu⟩:=n2 hk;exact ⟨NL hu 9999 _ _ (by simp),rfl,rfl,fun c=>by simp,by simp⟩)
  | (obtain ⟨e,hu⟩:=n3 hk;exact ⟨L8 hu 9999 _ _ (by simp),rfl,rfl,fun c=>by simp,by simp⟩)
  | (obtain ⟨a,b,c,hu⟩:=n4 hk;exact ⟨IG hu 9999,rfl,rfl,fun c=>by simp,by simp⟩)
  | (obtain ⟨a,b,c,hu⟩:=n4 hk;exact ⟨Jw hu 9999 _ _ _,rfl,rfl,fun c=>by simp,by simp⟩)
  | (obtain ⟨a,b,c,hu⟩:=n4 hk;exact ⟨IR hu 9999 _ _ _,rfl,rfl,fun c=>by simp,by simp⟩)
theorem Qo {R:Ren} {w:World} {op:BinOp} {t:TypeId} {x y v:V} {x' y':Value} (hx:VR R x x') (hy:VR R y y') (h:BL P op t x y=some v) (X Y:Operand) :
 ∃ z,(do eqGuard op t X Y x' y';binOp op t x' y':Sem Value).run P w = .ok z w∧VR R v z:=by
 unfold BL at h
 split at h
 ·rename_i k a k' b
  cases hx;cases hy
  obtain ⟨z,e1,e2⟩:=QX (P:=P) (w:=w) (t:=t) h
  exact ⟨z,by rw [run_bind_ok (qK (fun _ _ => .inl (by simp)) (.inl (by simp)))];exact e1,e2 R⟩
 ·rename_i a b
  cases hx;cases hy
  cases hb:isB P t with
  | false=>rw [hb] at h;cases h
  | true =>
   rw [hb] at h
   have h2:eqV op (some (iq a b))=some v:=h
   obtain ⟨r,e1,e2⟩:=x9 h2
   have hu:P.underlying t=some .bool:=by
    unfold isB at hb;split at hb
    ·rename_i q;exact q
    ·cases hb
   injection e1 with e1
   have hrun:(Op.equal t (.bool a) (.bool b)).run P w = .ok r w:=by
    rw [← e1,Ae];exact run_equalIn_bool' w 9999 t a b hu
   obtain ⟨z,q1,q2⟩:=xy e2 hrun rfl rfl
   exact ⟨z,by rw [run_bind_ok (qK (fun _ _ => .inl (by simp)) (.inl (by simp)))];exact q1,q2 R⟩
 ·rename_i n c n' d
  rw [aH] at h
  split at h
  ·rename_i e
   subst e
   cases hg:P.eqGuardType P.depth t with
   | true=>rw [hg] at h;cases h
   | false =>
    rw [hg] at h
    have h2:eqV op (jq P t n c d)=some v:=h
    obtain ⟨r,e1,e2⟩:=x9 h2
    obtain ⟨cs,rfl,hc⟩:=CR.of_agg hx
    obtain ⟨ds,rfl,hd⟩:=CR.of_agg hy
    have hrun:(Op.equal t (.agg cs) (.agg ds)).run P w = .ok r w:=zX hc hd e1 9998 (by omega)
    obtain ⟨z,q1,q2⟩:=xy e2 hrun rfl rfl
    exact ⟨z,by rw [run_bind_ok (run_eqGuard_agg w op t X Y cs ds hg)];exact q1,q2 R⟩
  ·cases h
 ·obtain ⟨r,e1,e2⟩:=x9 h
  obtain ⟨p1,p2,p3,p4,p5⟩:=LQ (w:=w) hx hy e1
  obtain ⟨z,q1,q2⟩:=xy e2 p1 p2 p3
  exact ⟨z,by rw [run_bind_ok (qK (fun c _ => .inl (p4 c)) (.inl p5))];exact q1,q2 R⟩
end Go.Ev
/- More operations: those that leave the heap alone. -/
namespace Go.Ev
open Go
variable {P:Program}
theorem dX {H H':EH} {o:Option V} {v:V} (h:iI H o=some (v,H')):o=some v∧H'=H:=by
 unfold iI at h;cases o with
 | none=>cases h
 | some x=>cases h;exact ⟨rfl,rfl⟩
theorem TW {R:Ren} {w:World} {op:UnOp} {x v:V} {x':Value} {H H':EH} (hx:VR R x x') (h:FT op x H=some (v,H')):H'=H∧PR P R w (Op.unary op x') v:=by
 unfold FT at h
 split at h
 ·cases h;cases hx;exact ⟨rfl,_,rfl,.bool _⟩
 ·obtain ⟨h1,h2⟩:=dX h
  rw [KT] at h1;cases h1;cases hx
  exact ⟨h2,_,rfl,.int _ _⟩
 ·cases h
theorem Nr {R:Ren} {w:World} {src dst:TypeId} {x v:V} {x':Value} {H H':EH} (hx:VR R x x') (h:qL P src dst x H=some (v,H')):H'=H∧PR P R w (convert src dst x') v:=by
 unfold qL at h
 split at h
 ·rename_i ds k k' n h1 h2
  obtain ⟨e1,e2⟩:=dX h
  rw [yh] at e1;cases e1;cases hx
  refine ⟨e2,.int k (k.wrap n),?_,.int _ _⟩
  unfold convert
  rw [run_bind_ok (aB h1 w),run_bind_ok (aB h2 w)]
  cases ds<;>rfl
 ·cases h
theorem pW (a:EA) (l:List Operand):mapO a l=l.map a.eval:=by
 induction l with
 | nil=>rfl
 | cons x l ih=>show a.eval x::mapO a l=_;rw [ih];rfl
theorem AL.mapO {R:Ren} {a:EA} {ρ:Operand→Value} {l:Array Operand} (h:∀ x,x∈l→VR R (a.eval x) (ρ x)):AL R (mapO a l.toList) (l.map ρ):=by
 rw [pW]
 refine ⟨by simp,fun i h1 h2=>?_⟩
 simp only [List.getElem_map,Array.getElem_map,Array.getElem_toList]
 exact h _ (Array.getElem_mem _)
theorem zo {R:Ren} {w:World} {fn:Fn} {l m:List V} {l' m':Array Value} {v:V} {H H':EH} (hl:AL R l l') (hm:AL R m m') (h:kJ fn l m H=some (v,H')):H'=H∧PR P R w (Instr.makeFunc fn l' m') v:=by
 unfold kJ at h
 split at h
 ·cases h;exact ⟨rfl,_,rfl,.func hl.1 hl.2 hm.1 hm.2⟩
 ·cases h
theorem bU {w:World} {R:Ren} {x:Option V} {x':Option Value} {dflt y y2 n:Nat} (hx:match x,x' with | none,none=>True | some v,some v'=>VR R v v' | _,_=>False) (h:sliceB x dflt y=some n) (hy:y≤y2) (code:BoundsCode) :
 (match x' with | some v=>Instr.sliceBound v y2 code | none=>pure dflt).run P w = .ok n w∧(x=none→n=dflt)∧(x≠none→n≤y):=by
 unfold sliceB at h
 split at h
 ·cases h
  cases x' with
  | none=>exact ⟨rfl,fun _=>rfl,fun h=>absurd rfl h⟩
  | some v=>exact hx.elim
 ·rename_i k i
  rw [bg] at h
  split at h
  ·rename_i hle
   injection h with h
   subst h
   cases x' with
   | none=>exact hx.elim
   | some v =>
    have hx:VR R (.int k (.ofNat i)) v:=hx
    cases hx
    refine ⟨?_,fun h=>(by cases h),fun _=>hle⟩
    show (Instr.sliceBound (.int k (Int.ofNat i)) y2 code).run P w=_
    unfold Instr.sliceBound
    rw [run_bind_ok (show (asIntOf (.int k (Int.ofNat i))).run P w = .ok (k,Int.ofNat i) w from rfl)]
    simp only [Int.ofNat_eq_natCast]
    rw [if_pos (by omega)]
    simp
  ·cases h
 ·cases h
theorem nG {w:World} {len cap hn ln:Nat} {lo' hi':Option Value} (r1:(match hi' with | some v=>Instr.sliceBound v cap .sliceAcap | none=>pure len).run P w = .ok hn w)
 (r2:(match lo' with | some v=>Instr.sliceBound v hn .sliceB | none=>pure 0).run P w = .ok ln w):(Instr.sliceBounds true len cap lo' hi' none).run P w = .ok (ln,hn,cap) w:=by
 unfold Instr.sliceBounds
 rw [run_bind_ok (show (pure cap:Sem Nat).run P w = .ok cap w from rfl)]
 cases hi'<;>cases lo'<;>(dsimp only at r1 r2 ⊢;first | exact (run_bind_ok r1).trans ((run_bind_ok r2).trans rfl) | (rw [run_bind_ok r1];try dsimp only;rw [run_bind_ok r2];rfl))
theorem oU {R:Ren} {a:EA} {ρ:Operand→Value} {x:Option Operand} (h:∀ y,x=some y→VR R (a.eval y) (ρ y)):match uh a x,x.map ρ with | none,none=>True | some v,some v'=>VR R v v' | _,_=>False:=by
 cases x with
 | none=>trivial
 | some y=>exact h y rfl
theorem GM {w:World} {len cap hn ln:Nat} {lo' hi':Option Value} (r1:(match hi' with | some v=>Instr.sliceBound v cap .sliceAlen | none=>pure len).run P w = .ok hn w)
 (r2:(match lo' with | some v=>Instr.sliceBound v hn .sliceB | none=>pure 0).run P w = .ok ln w):(Instr.sliceBounds false len cap lo' hi' none).run P w = .ok (ln,hn,cap) w:=by
 unfold Instr.sliceBounds
 rw [run_bind_ok (show (pure cap:Sem Nat).run P w = .ok cap w from rfl)]
 cases hi'<;>cases lo'<;>(dsimp only at r1 r2 ⊢;first | exact (run_bind_ok r1).trans ((run_bind_ok r2).trans rfl) | (rw [run_bind_ok r1];try dsimp only;rw [run_bind_ok r2];rfl))
theorem Et {w:World} {len cap hn ln mn:Nat} {lo':Option Value} {hi' mx':Value} (r0:(Instr.sliceBound mx' cap .slice3Acap).run P w = .ok mn w) (r1:(Instr.sliceBound hi' mn .slice3B).run P w = .ok hn w)
 (r2:(match lo' with | some v=>Instr.sliceBound v hn .slice3C | none=>pure 0).run P w = .ok ln w):(Instr.sliceBounds true len cap lo' (some hi') (some mx')).run P w = .ok (ln,hn,mn) w:=by
 unfold Instr.sliceBounds
 simp only [if_true,Option.isSome_some]
 rw [run_bind_ok r0]
 try dsimp only
 rw [run_bind_ok r1]
 cases lo' with
 | none=>(try dsimp only at r2 ⊢);rw [run_bind_ok r2];rfl
 | some v=>(try dsimp only at r2 ⊢);rw [run_bind_ok r2];rfl
theorem GZ {R:Ren} {w:World} {t:TypeId} {x v:V} {x':Value} {lo hi mx:Option V} {lo' hi' mx':Option Value} {H H':EH} (hx:VR R x x') (hlo:match lo,lo' with | none,none=>True | some v,some v'=>VR R v v' | _,_=>False)
 (hhi:match hi,hi' with | none,none=>True | some v,some v'=>VR R v v' | _,_=>False) (hmx:match mx,mx' with | none,none=>True | some v,some v'=>VR R v v' | _,_=>False) (h:lU P t x lo hi mx H=some (v,H')):H'=H∧PR P R w (Instr.sliceAt t x' lo' hi' mx') v:=by
 unfold lU at h
 split at h
 ·rename_i elem hu
  split at h
  ·rename_i e b off len e' hiv mxv he
   rw [aH] at h
   split at h
   ·rename_i ee
    subst ee
    cases hi' with
    | none=>exact hhi.elim
    | some hi' =>
    cases mx' with
    | none=>exact hmx.elim
    | some mx' =>
    have hrun:(Instr.sliceAt t x' lo' (some hi') (some mx')).run P w=(Instr.slice t x' lo' (some hi') (some mx')).run P w:=by
     unfold Instr.sliceAt;rw [run_bind_ok (aB hu w)]
    cases hx with
    | slice hm ho hl hz =>
     rename_i r d o cap
     cases hmm:sliceB (some mxv) 0 len with
     | none=>rw [hmm] at h;cases h
     | some mn =>
      rw [hmm] at h
      simp only at h
      cases hh:sliceB (some hiv) 0 mn with
      | none=>rw [hh] at h;cases h
      | some hn =>
       rw [hh] at h
       simp only at h
       cases hll:sliceB lo 0 hn with
       | none=>rw [hll] at h;cases h
       | some ln =>
        rw [hll] at h;cases h
        obtain ⟨r0,_,q0⟩:=bU (P:=P) (w:=w) (x':=some mx') hmx hmm hl .slice3Acap
        obtain ⟨r1,_,q2⟩:=bU (P:=P) (w:=w) (x':=some hi') hhi hh (Nat.le_refl _) .slice3B
        obtain ⟨r2,q3,q4⟩:=bU (P:=P) (w:=w) hlo hll (Nat.le_refl _) .slice3C
        have hmn:mn≤len:=q0 (fun q=>by cases q)
        have hhn:hn≤mn:=q2 (fun q=>by cases q)
        have hln:ln≤hn:=by
         by_cases q:lo=none
         ·rw [q3 q];exact Nat.zero_le _
         ·exact q4 q
        refine ⟨rfl,.slice (if mn=ln then some ⟨r,o,none⟩ else some ⟨r,o+ln*e,none⟩) (hn-ln) (mn-ln),?_,?_⟩
        ·rw [hrun]
         unfold Instr.slice
         rw [run_bind_ok (aB hu w)]
         simp only
         have hb:=Et (len:=len) r0 r1 r2
         rw [run_bind_ok hb,run_bind_ok (bQ he w)]
         simp only [Option.map_some,dN]
         rfl
        ·by_cases hc:mn=ln
         ·rw [if_pos hc]
          refine .slice hm (fun h=>by omega) (by show hn-ln≤mn-ln;omega) ?_
          have:mn-ln=0:=by omega
          rw [this];have:=Nat.zero_le (cap*e);omega
         ·rw [if_neg hc]
          have hcap:cap≠0:=by omega
          refine .slice hm (fun _=>by have:=ho hcap;show o+ln*e+d=off+ln*e;omega) (by show hn-ln≤mn-ln;omega) ?_
          have h1:mn*e=ln*e+(mn-ln)*e:=by rw [← Nat.add_mul];congr 1;omega
          have h2:mn*e≤cap*e:=Nat.mul_le_mul_right _ (by omega)
          omega
   ·cases h
  ·cases h
 ·cases h
theorem Hr {S:Nat→Prop} {R:Ren} {w:World} {t:TypeId} {x v:V} {x':Value} {lo hi:Option V} {lo' hi':Option Value} {H H':EH} (hr:Rel R S H w) (hS:∀ g,g∈Xy H x→S g) (hx:VR R x x') (hlo:match lo,lo' with | none,none=>True | some v,some v'=>VR R v v' | _,_=>False)
 (hhi:match hi,hi' with | none,none=>True | some v,some v'=>VR R v v' | _,_=>False) (h:pX P t x lo hi H=some (v,H')):H'=H∧PR P R w (Instr.sliceAt t x' lo' hi' none) v:=by
 unfold pX at h
 split at h
 ·rename_i elem hu
  have hrun:(Instr.sliceAt t x' lo' hi' none).run P w=(Instr.slice t x' lo' hi' none).run P w:=by
   unfold Instr.sliceAt;rw [run_bind_ok (aB hu w)]
  split at h
  ·rename_i e b off len e' he
   rw [aH] at h
   split at h
   ·rename_i ee
    subst ee
    cases hx with
    | slice hm ho hl hz =>
     rename_i r d o cap
     cases hh:sliceB hi len len with
     | none=>rw [hh] at h;cases h
     | some hn =>
      rw [hh] at h
      simp only at h
      cases hll:sliceB lo 0 hn with
      | none=>rw [hll] at h;cases h
      | some ln =>
       rw [hll] at h;cases h
       obtain ⟨r1,q1,q2⟩:=bU (P:=P) (w:=w) hhi hh hl .sliceAcap
       have hhn:hn≤cap:=by
        by_cases q:hi=none
        ·rw [q1 q];exact hl
        ·exact Nat.le_trans (q2 q) hl
       obtain ⟨r2,q3,q4⟩:=bU (P:=P) (w:=w) hlo hll (Nat.le_refl _) .sliceB
       have hln:ln≤hn:=by
        by_cases q:lo=none
        ·rw [q3 q];exact Nat.zero_le _
        ·exact q4 q
       refine ⟨rfl,.slice (if cap=ln then some ⟨r,o,none⟩ else some ⟨r,o+ln*e,none⟩) (hn-ln) (cap-ln),?_,?_⟩
       ·rw [hrun]
        unfold Instr.slice
        rw [run_bind_ok (aB hu w)]
        simp only
        have hb:=nG r1 r2
        rw [run_bind_ok hb,run_bind_ok (bQ he w)]
        simp only [Option.map_some,dN]
        rfl
       ·by_cases hc:cap=ln
        ·rw [if_pos hc]
         refine .slice hm (fun h=>by omega) (by show hn-ln≤cap-ln;omega) ?_
         have:cap-ln=0:=by omega
         rw [this];have:=Nat.zero_le (cap*e);omega
        ·rw [if_neg hc]
         have hcap:cap≠0:=by omega
         refine .slice hm (fun _=>by have:=ho hcap;show o+ln*e+d=off+ln*e;omega) (by show hn-ln≤cap-ln;omega) ?_
         have:cap*e=ln*e+(cap-ln)*e:=by rw [← Nat.add_mul];congr 1;omega
         omega
   ·cases h
  ·rename_i e he
   cases hx
   cases hh:sliceB hi 0 0 with
   | none=>rw [hh] at h;cases h
   | some hn =>
    rw [hh] at h
    simp only at h
    cases hll:sliceB lo 0 hn with
    | none=>rw [hll] at h;cases h
    | some ln =>
     rw [hll] at h;cases h
     obtain ⟨r1,q1,q2⟩:=bU (P:=P) (w:=w) hhi hh (Nat.le_refl _) .sliceAcap
     have hhn:hn=0:=by
      by_cases q:hi=none
      ·exact q1 q
      ·have:=q2 q;omega
     obtain ⟨r2,q3,q4⟩:=bU (P:=P) (w:=w) hlo hll (Nat.le_refl _) .sliceB
     have hln:ln=0:=by
      by_cases q:lo=none
      ·exact q3 q
      ·have:=q4 q;omega
     subst hhn;subst hln
     refine ⟨rfl,.slice none 0 0,?_,.nilSlice⟩
     rw [hrun]
     unfold Instr.slice
     rw [run_bind_ok (aB hu w)]
     simp only
     have hb:=nG r1 r2
     rw [run_bind_ok hb,run_bind_ok (bQ he w)]
     rfl
  ·rename_i e k a c len e' he
   rw [aH] at h
   split at h
   ·rename_i ee
    subst ee
    cases hh:sliceB hi len len with
    | none=>rw [hh] at h;cases h
    | some hn =>
     rw [hh] at h
     simp only at h
     cases hll:sliceB lo 0 hn with
     | none=>rw [hll] at h;cases h
     | some ln =>
      rw [hll] at h;cases h
      refine ⟨rfl,?_⟩
      have fin:∀ (Ad:Addr) cap,len≤cap→x' = .slice (some Ad) len cap→VR R (.fz k a (fun i=>c (Nat.add ln i)) (Nat.sub hn ln) e) (.slice (if cap=ln then some Ad else some (Ad.add (ln*e))) (hn-ln) (cap-ln)) →
       PR P R w (Instr.sliceAt t x' lo' hi' none) (.fz k a (fun i=>c (Nat.add ln i)) (Nat.sub hn ln) e):=fun Ad cap hl ex hv=>by
       subst ex
       obtain ⟨r1,q1,q2⟩:=bU (P:=P) (w:=w) hhi hh hl .sliceAcap
       obtain ⟨r2,q3,q4⟩:=bU (P:=P) (w:=w) hlo hll (Nat.le_refl _) .sliceB
       refine ⟨_,?_,hv⟩
       rw [hrun]
       unfold Instr.slice
       rw [run_bind_ok (aB hu w)]
       simp only
       have hb:=nG r1 r2
       rw [run_bind_ok hb,run_bind_ok (bQ he w)]
       simp only [Option.map_some]
       rfl
      have lim:∀ cap,len≤cap→hn≤len∧ln≤hn:=fun cap hl=>by
       obtain ⟨r1,q1,q2⟩:=bU (P:=P) (w:=w) hhi hh (Nat.le_refl _) .sliceAcap
       obtain ⟨r2,q3,q4⟩:=bU (P:=P) (w:=w) hlo hll (Nat.le_refl _) .sliceB
       constructor
       ·by_cases q:hi=none
        ·rw [q1 q];exact Nat.le_refl _
        ·exact q2 q
       ·by_cases q:lo=none
        ·rw [q3 q];exact Nat.zero_le _
        ·exact q4 q
      have emp:∀ (Ad:Addr) cap,(k=false→e=0→cap=0)→hn-ln=0→VR R (.fz k a (fun i=>c (Nat.add ln i)) (Nat.sub hn ln) e) (.slice (if cap=ln then some Ad else some (Ad.add (ln*e))) (hn-ln) (cap-ln)):=fun Ad cap hz h0=>by
       show VR R (.fz k a (fun i=>c (Nat.add ln i)) (hn-ln) e) _
       rw [h0]
       split
       ·cases Ad;exact .fzE (fun q1 q2=>by have:=hz q1 q2;omega)
       ·generalize Ad.add (ln*e)=Bd
        cases Bd;exact .fzE (fun q1 q2=>by have:=hz q1 q2;omega)
      cases hx with
      | fzN =>
       obtain ⟨l1,l2⟩:=lim 0 (Nat.le_refl _)
       have hhn:hn=0:=by omega
       have hln:ln=0:=by omega
       subst hhn;subst hln
       obtain ⟨r1,q1,q2⟩:=bU (P:=P) (w:=w) hhi hh (Nat.le_refl _) .sliceAcap
       obtain ⟨r2,q3,q4⟩:=bU (P:=P) (w:=w) hlo hll (Nat.le_refl _) .sliceB
       refine ⟨.slice none 0 0,?_,.fzN⟩
       rw [hrun]
       unfold Instr.slice
       rw [run_bind_ok (aB hu w)]
       simp only
       have hb:=nG r1 r2
       rw [run_bind_ok hb,run_bind_ok (bQ he w)]
       rfl
      | fzE hz =>
       rename_i r o cap sp
       obtain ⟨l1,l2⟩:=lim cap (Nat.zero_le _)
       exact fin ⟨r,o,sp⟩ cap (Nat.zero_le _) rfl (emp _ cap hz (by omega))
      | fz y hc hl hy hs ha hv hz =>
       rename_i r o cap cs
       obtain ⟨l1,l2⟩:=lim cap hl
       refine fin ⟨r,o,none⟩ cap hl rfl ?_
       by_cases h0:hn-ln=0
       ·exact emp _ cap hz h0
       ·rw [if_neg (by omega),dN]
        refine .fz (fun i j=>y (ln+i) j) hc (by show hn-ln≤cap-ln;omega) (fun i j hi hj=>?_) (fun i j hi hj=>?_) (fun i j hi hj=>?_) (fun i j hi hj=>?_) (fun q1 q2=>by have:=hz q1 q2;omega)
        ·have hi:i<hn-ln:=hi
         have:=hy (ln+i) j (by omega) hj
         rw [Nat.add_mul,Nat.add_assoc] at this
         rw [Nat.add_assoc];exact this
        ·have hi:i<hn-ln:=hi
         exact hs (ln+i) j (by omega) hj
        ·have hi:i<hn-ln:=hi
         exact ha (ln+i) j (by omega) hj
        ·have hi:i<hn-ln:=hi
         exact hv (ln+i) j (by omega) hj
   ·cases h
  ·cases h
 ·rename_i n elem hu
  split at h
  ·rename_i e b off he
   cases hb:H.block b with
   | no=>rw [hb] at h;cases h
   | mk c lo0 sz g =>
    rw [hb] at h
    simp only [bg,dB] at h
    split at h
    case isFalse=>cases h
    rename_i q1
    split at h
    case isFalse=>cases h
    rename_i q2
    split at h
    case isFalse=>cases h
    rename_i q3
    have q2:off+n*e≤sz:=q2
    have q3:0<n*e:=q3
    cases hh:sliceB hi n n with
    | none=>rw [hh] at h;cases h
    | some hn =>
     rw [hh] at h
     simp only at h
     cases hll:sliceB lo 0 hn with
     | none=>rw [hll] at h;cases h
     | some ln =>
      rw [hll] at h
      simp only [dA] at h
      cases h
      refine ⟨rfl,?_⟩
      cases hx with
      | ptr hm ho =>
       rename_i r d o
       obtain ⟨cs,t',fz,a1,a2,a3,a4⟩:=hr.row hb hm (hS g (by show g∈mf H b;unfold mf;rw [(aV hb).1];simp))
       have hin:o+n*e≤cs.size:=by
        obtain ⟨k0,xx,yy,k1,k2,k3,k4⟩:=a4 (off+(n*e-1)) (by omega) (by omega)
        have:=(Array.getElem?_eq_some_iff.1 k3).1
        omega
       obtain ⟨r1,z1,z2⟩:=bU (P:=P) (w:=w) hhi hh (Nat.le_refl _) .sliceAlen
       obtain ⟨r2,z3,z4⟩:=bU (P:=P) (w:=w) hlo hll (Nat.le_refl _) .sliceB
       have hhn:hn≤n:=by
        by_cases q:hi=none
        ·rw [z1 q];exact Nat.le_refl _
        ·exact z2 q
       have hln:ln≤hn:=by
        by_cases q:lo=none
        ·rw [z3 q];exact Nat.zero_le _
        ·exact z4 q
       refine ⟨.slice (some (if n=ln then ⟨r,o,none⟩ else ⟨r,o+ln*e,none⟩)) (hn-ln) (n-ln),?_,?_⟩
       ·unfold Instr.sliceAt
        rw [run_bind_ok (aB hu w)]
        simp only
        rw [run_bind_ok (show (Instr.sureAddr (.pointer (some ⟨r,o,none⟩))).run P w = .ok ⟨r,o,none⟩ w from rfl),run_bind_ok (GM r1 r2)]
        simp only
        rw [run_bind_ok (bQ he w)]
        simp only [dN]
        rfl
       ·by_cases hc:n=ln
        ·rw [if_pos hc]
         refine .slice hm (fun h=>by omega) (by show hn-ln≤n-ln;omega) ?_
         have:n-ln=0:=by omega
         rw [this,← a2];omega
        ·rw [if_neg hc]
         refine .slice hm (fun _=>by show o+ln*e+d=off+ln*e;omega) (by show hn-ln≤n-ln;omega) ?_
         have:n*e=ln*e+(n-ln)*e:=by rw [← Nat.add_mul];congr 1;omega
         rw [← a2];omega
  ·cases h
 ·cases h
end Go.Ev
/- Fields, indexes, parts, lengths. -/
namespace Go.Ev
open Go
variable {P:Program}
theorem zU {R:Ren} {w:World} {t:TypeId} {n off:Nat} {c:T V} {cs:Array Value} {v:V} (hc:CR R n c cs) (h:zL n c off (qy P t)=some v):PR P R w (part t cs off) v:=by
 unfold zL at h
 split at h
 ·rename_i m hk
  obtain ⟨k1,k2⟩:=uH hk
  rw [bg] at h
  split at h
  ·rename_i hle
   have hle':off+m≤n:=hle
   cases hs:Np c off m with
   | none=>rw [hs] at h;cases h
   | some c' =>
    rw [hs] at h;cases h
    refine ⟨.agg (cs.extract off (off+m)),?_,(show CR R m c' _ from ⟨by simp [hc.1];omega,fun i hi=>?_⟩).agg⟩
    ·unfold part
     rw [run_bind_ok (k1 w)]
     simp only [if_true]
     rw [run_bind_ok (k2 w)];rfl
    ·obtain ⟨x,y,a1,a2,a3,a4⟩:=hc.2 (off+i) (by omega)
     refine ⟨x,y,Fp hs i hi x a1,a2,?_,a4⟩
     rw [Array.getElem?_extract,if_pos (by rw [hc.1];omega)];exact a3
  ·cases h
 ·rename_i hk
  obtain ⟨k1,_⟩:=uB hk
  rw [dB] at h
  split at h
  ·rename_i hlt
   obtain ⟨x,y,a1,a2,a3,a4⟩:=hc.2 off hlt
   rw [h] at a1;cases a1
   refine ⟨y,?_,a4⟩
   unfold part
   rw [run_bind_ok (k1 w)]
   simp only [Bool.false_eq_true,if_false]
   rw [a3];rfl
  ·cases h
 ·cases h
theorem Bo {H H':EH} {b off n:Nat} {v:V} (h:Ny b off n H=some (v,H')):v = .ptr b (off+n)∧H'=H:=by
 unfold Ny at h;rw [dA] at h;cases h;exact ⟨rfl,rfl⟩
theorem y5 {R:Ren} {w:World} {s:TypeId} {x v:V} {x':Value} {f:Nat} {H H':EH} (hx:VR R x x') (h:jr P s x f H=some (v,H')):H'=H∧PR P R w (Instr.fieldAt s x' f) v:=by
 unfold jr at h
 split at h
 ·rename_i fields b off hu
  cases hf:fields[f]? with
  | none=>rw [hf] at h;cases h
  | some fd =>
   rw [hf] at h
   simp only at h
   unfold Uh at h
   split at h
   ·rename_i m hs
    obtain ⟨rfl,rfl⟩:=Bo h
    cases hx with
    | ptr hm ho =>
     rename_i r d o
     refine ⟨rfl,.pointer (some ⟨r,o+fd.offset,none⟩),?_,.ptr hm (by omega)⟩
     unfold Instr.fieldAt
     rw [run_bind_ok (aB hu w)]
     simp only [hf]
     rw [run_bind_ok (show (Instr.sureAddr (.pointer (some ⟨r,o,none⟩))).run P w = .ok ⟨r,o,none⟩ w from rfl)]
     unfold fieldPlace
     rw [run_bind_ok (show (do if (← sizeOf fd.type)=0 then partAt ⟨r,o,none⟩ fd.offset fd.byteOffset else pure ((⟨r,o,none⟩:Addr).add fd.offset):Sem Addr).run P w = .ok ⟨r,o+fd.offset,none⟩ w by
      rw [run_bind_ok (bQ hs w),if_neg (by simp),dN];rfl)]
     rfl
   ·cases h
 ·rename_i fields a g e j hu
  cases hf:fields[f]? with
  | none=>rw [hf] at h;cases h
  | some fd =>
   rw [hf] at h
   simp only at h
   unfold UL at h
   split at h
   ·rename_i m hs
    unfold fpO at h
    rw [dA] at h
    cases h
    cases hx with
    | fp y hc hy hs' ha hv =>
     rename_i r o cs
     refine ⟨rfl,.pointer (some ⟨r,o+j+fd.offset,none⟩),?_,by
      have:=VR.fp (R:=R) (a:=a) (g:=g) (e:=e) (j:=j+fd.offset) (r:=r) (o:=o) y hc hy hs' ha hv
      rwa [← Nat.add_assoc] at this⟩
     unfold Instr.fieldAt
     rw [run_bind_ok (aB hu w)]
     simp only [hf]
     rw [run_bind_ok (show (Instr.sureAddr (.pointer (some ⟨r,o+j,none⟩))).run P w = .ok ⟨r,o+j,none⟩ w from rfl)]
     unfold fieldPlace
     rw [run_bind_ok (show (do if (← sizeOf fd.type)=0 then partAt ⟨r,o+j,none⟩ fd.offset fd.byteOffset else pure ((⟨r,o+j,none⟩:Addr).add fd.offset):Sem Addr).run P w = .ok ⟨r,o+j+fd.offset,none⟩ w by
      rw [run_bind_ok (bQ hs w),if_neg (by simp),dN];rfl)]
     rfl
   ·cases h
 ·cases h
theorem Ia {R:Ren} {w:World} {s:TypeId} {x v:V} {x':Value} {f:Nat} {H H':EH} (hx:VR R x x') (h:sS P s x f H=some (v,H')):H'=H∧PR P R w (Instr.field s x' f) v:=by
 unfold sS at h
 split at h
 ·rename_i fields n c hu
  cases hf:fields[f]? with
  | none=>rw [hf] at h;cases h
  | some fd =>
   rw [hf] at h
   obtain ⟨h1,h2⟩:=dX h
   obtain ⟨cs,rfl,hc⟩:=CR.of_agg hx
   obtain ⟨z,e1,e2⟩:=zU (w:=w) hc h1
   refine ⟨h2,z,?_,e2⟩
   unfold Instr.field
   rw [run_bind_ok (aB hu w)]
   simp only [hf]
   rw [run_bind_ok (show (asAgg (.agg cs)).run P w = .ok cs w from rfl)]
   exact e1
 ·cases h
theorem y9 {k:Int} {len n:Nat} (h:inN k len=some n):k=n∧n<len:=by
 unfold inN at h
 cases k with
 | ofNat a =>
  simp only [dB] at h
  split at h
  ·rename_i hl;cases h;exact ⟨rfl,hl⟩
  ·cases h
 | negSucc a=>cases h
theorem FW {H H':EH} {b off:Nat} {e i:Option Nat} {v:V} (h:ixO b off e i H=some (v,H')):∃ e' n,e=some e'∧i=some n∧v = .ptr b (off+n*e')∧H'=H:=by
 unfold ixO at h
 split at h
 ·rename_i e' n;obtain ⟨h1,h2⟩:=Bo h;exact ⟨e',n,rfl,rfl,h1,h2⟩
 ·cases h
theorem xP {R:Ren} {w:World} {t:TypeId} {x i v:V} {x' i':Value} {H H':EH} (hx:VR R x x') (hi:VR R i i') (h:dG P t x i H=some (v,H')):H'=H∧PR P R w (Instr.indexAt t x' i') v:=by
 unfold dG at h
 split at h
 ·rename_i elem b off len e0 q k hu
  obtain ⟨e,n,he,hn,rfl,rfl⟩:=FW h
  obtain ⟨rfl,hlt⟩:=y9 hn
  cases hi
  cases hx with
  | slice hm ho hl hz =>
   rename_i r d o cap
   refine ⟨rfl,.pointer (some ⟨r,o+n*e,none⟩),?_,.ptr hm (by have:=ho (by omega);omega)⟩
   unfold Instr.indexAt
   rw [run_bind_ok (show (asIntOf (.int q (n:Int))).run P w = .ok (q,(n:Int)) w from rfl)]
   simp only
   rw [run_bind_ok (aB hu w)]
   simp only
   rw [run_bind_ok (show (pure (some ⟨r,o,none⟩,len,elem):Sem (Option Addr×Nat×TypeId)).run P w = .ok (some ⟨r,o,none⟩,len,elem) w from rfl)]
   simp only
   rw [run_bind_ok (aB hu w)]
   rw [if_pos (by omega),run_bind_ok (bQ he w),dN]
   rfl
 ·rename_i len elem b off q k hu
  obtain ⟨e,n,he,hn,rfl,rfl⟩:=FW h
  obtain ⟨rfl,hlt⟩:=y9 hn
  cases hi
  cases hx with
  | ptr hm ho =>
   rename_i r d o
   refine ⟨rfl,.pointer (some ⟨r,o+n*e,none⟩),?_,.ptr hm (by omega)⟩
   unfold Instr.indexAt
   rw [run_bind_ok (show (asIntOf (.int q (n:Int))).run P w = .ok (q,(n:Int)) w from rfl)]
   simp only
   rw [run_bind_ok (aB hu w)]
   simp only
   rw [run_bind_ok (show (Instr.sureAddr (.pointer (some ⟨r,o,none⟩))).run P w = .ok ⟨r,o,none⟩ w from rfl)]
   rw [run_bind_ok (show (pure (some ⟨r,o,none⟩,len,elem):Sem (Option Addr×Nat×TypeId)).run P w = .ok (some ⟨r,o,none⟩,len,elem) w from rfl)]
   simp only
   rw [run_bind_ok (aB hu w)]
   rw [if_pos (by omega),run_bind_ok (bQ he w),dN]
   rfl
 ·rename_i elem b0 a c len e q k hu
  unfold ixF at h
  split at h
  ·rename_i e' he
   rw [aH] at h
   split at h
   ·rename_i ee
    subst ee
    cases hk:cZ k len with
    | false=>rw [hk] at h;cases h
    | true =>
     rw [hk] at h
     cases h
     cases k with
     | negSucc n=>cases hk
     | ofNat n =>
      have hlt:n<len:=Nat.le_of_ble_eq_true hk
      cases hi
      cases hx with
      | fzN=>omega
      | fzE=>omega
      | fz y hc hl hy hs ha hv h0 =>
       rename_i r o cap cs
       refine ⟨rfl,.pointer (some ⟨r,o+n*e,none⟩),?_,.fp (o:=o+n*e) (j:=0) (y n) hc (fun i hi=>by rw [Nat.add_assoc];exact hy n i hlt hi) (fun i hi=>hs n i hlt hi) (fun i hi=>ha n i hlt hi) (fun i hi=>hv n i hlt hi)⟩
       unfold Instr.indexAt
       rw [run_bind_ok (show (asIntOf (.int q (Int.ofNat n))).run P w = .ok (q,(n:Int)) w from rfl)]
       simp only
       rw [run_bind_ok (aB hu w)]
       simp only
       rw [run_bind_ok (show (pure (some ⟨r,o,none⟩,len,elem):Sem (Option Addr×Nat×TypeId)).run P w = .ok (some ⟨r,o,none⟩,len,elem) w from rfl)]
       simp only
       rw [run_bind_ok (aB hu w)]
       rw [if_pos (by omega),run_bind_ok (bQ he w),dN]
       rfl
   ·cases h
  ·cases h
 ·cases h
theorem Ie {R:Ren} {w:World} {t:TypeId} {x i v:V} {x' i':Value} {H H':EH} (hx:VR R x x') (hi:VR R i i') (h:fU P t x i H=some (v,H')):H'=H∧PR P R w (Instr.index t x' i') v:=by
 unfold fU at h
 split at h
 ·rename_i len elem n c q k hu
  split at h
  ·rename_i e j he hj
   obtain ⟨rfl,hlt⟩:=y9 hj
   obtain ⟨h1,h2⟩:=dX h
   obtain ⟨cs,rfl,hc⟩:=CR.of_agg hx
   obtain ⟨z,e1,e2⟩:=zU (w:=w) hc h1
   cases hi
   refine ⟨h2,z,?_,e2⟩
   unfold Instr.index
   rw [run_bind_ok (show (asIntOf (.int q (j:Int))).run P w = .ok (q,(j:Int)) w from rfl)]
   simp only
   rw [run_bind_ok (aB hu w)]
   simp only
   rw [if_pos (by omega),run_bind_ok (bQ he w)]
   exact e1
  ·cases h
 ·rename_i s q n hu
  cases hb:s[n]? with
  | none=>rw [hb] at h;cases h
  | some b =>
   rw [hb] at h
   simp only [dA] at h
   cases h
   cases hx;cases hi
   refine ⟨rfl,_,?_,.int _ _⟩
   unfold Instr.index
   rw [run_bind_ok (show (asIntOf (.int q (Int.ofNat n))).run P w = .ok (q,Int.ofNat n) w from rfl)]
   simp only
   rw [run_bind_ok (aB hu w)]
   simp only
   rw [if_pos (by exact Int.natCast_nonneg n)]
   show ((match s[n]? with | some b=>pure (.int .u8 b.toNat) | none=>boundsPanic q (Int.ofNat n) s.size .index:Sem Value)).run P w=_
   rw [hb]
   rfl
 ·cases h
theorem Tz (l:List V):∀ i,Uw l i=l[i]?:=by
 induction l with
 | nil=>intro i;rfl
 | cons x l ih=>intro i;cases i with
  | zero=>rfl
  | succ i=>exact ih i
theorem ul {R:Ren} {w:World} {x v:V} {x':Value} {i:Nat} {H H':EH} (hx:VR R x x') (h:lV x i H=some (v,H')):H'=H∧PR P R w (Instr.extract x' i) v:=by
 unfold lV at h
 split at h
 ·rename_i l
  obtain ⟨h1,h2⟩:=dX h
  rw [Tz] at h1
  cases hx with
  | tup hl hv =>
   rename_i vs
   obtain ⟨y,e1,e2⟩:=AL.get? (vs:=vs) ⟨hl,hv⟩ h1
   refine ⟨h2,y,?_,e2⟩
   unfold Instr.extract
   simp only [e1];rfl
 ·cases h
theorem zC {R:Ren} {x v:V} {x':Value} {H H':EH} (hx:VR R x x') (h:ja x H=some (v,H')) :
 H'=H∧v=x∧x' ≠ .pointer none∧x' ≠ .nilIface∧x' ≠ .nilFunc∧∀ n f c,x' ≠ .func (.method n) f c:=by
 unfold ja at h
 split at h<;>first | (cases h;done) | skip
 all_goals (cases h;cases hx;refine ⟨rfl,rfl,?_,?_,?_,?_⟩<;>simp)
theorem UM (l:List (V×V×Nat)):FQ l=l.length:=by
 induction l with
 | nil=>rfl
 | cons x l ih=>show Nat.succ (FQ l)=_;rw [ih];rfl
theorem SE {R:Ren} {S:Nat→Prop} {w:World} {t:TypeId} {x v:V} {x':Value} {H H':EH} (hr:Rel R S H w) (hx:VR R x x') (h:Gv (MG P t) x H=some (v,H')) (hS:∀ g,g∈dM H x→S g) {ts:Array TypeId} {ty:TypeId} {args:Array Value} (ht:ts[0]?=some t) (ha:args[0]?=some x') :
 H'=H∧PR P R w (Builtin.len_ ts ty args) v:=by
 obtain ⟨n1,n2,n3,n4⟩:=uX (P:=P) (t:=t)
 unfold Gv MG at h
 split at h
 ·rename_i hk
  obtain ⟨e,hu⟩:=n1 hk
  cases h;cases hx
  refine ⟨rfl,_,?_,.int _ _⟩
  unfold Builtin.len_
  simp only [ht,ha]
  rw [run_bind_ok (aB hu w)]
  rfl
 ·rename_i hk
  obtain ⟨e,hu⟩:=n1 hk
  cases h;cases hx
  refine ⟨rfl,_,?_,.int _ _⟩
  unfold Builtin.len_
  simp only [ht,ha]
  rw [run_bind_ok (aB hu w)]
  rfl
 ·rename_i hk
  obtain ⟨e,hu⟩:=n1 hk
  cases h
  refine ⟨rfl,?_⟩
  cases hx <;>
  ·refine ⟨_,?_,.int _ _⟩
   unfold Builtin.len_
   simp only [ht,ha]
   rw [run_bind_ok (aB hu w)]
   rfl
 ·rename_i hk
  obtain ⟨k,e,hu⟩:=n2 hk
  cases h;cases hx
  refine ⟨rfl,_,?_,.int _ _⟩
  unfold Builtin.len_
  simp only [ht,ha]
  rw [run_bind_ok (aB hu w)]
  rfl
 ·rename_i b hk
  obtain ⟨k,e,hu⟩:=n2 hk
  split at h
  ·rename_i es clk ho
   cases h
   cases hx with
   | map hm =>
    rename_i r
    obtain ⟨_,es',clk',h1,h2⟩:=hr.obj b _ r 0 ho hm
    obtain ⟨_,h3⟩:=h2 (hS _ (by show b∈dM H (.map b);simp [dM]))
    have hl:=h3.length
    refine ⟨rfl,.int .i64 es'.size,?_,?_⟩
    ·unfold Builtin.len_
     simp only [ht,ha]
     rw [run_bind_ok (aB hu w)]
     simp only
     rw [run_bind_ok (show (getObj r).run P w = .ok (.map es' clk') w by simp [getObj,Sem.run,h1])]
     rfl
    ·rw [UM,hl]
     exact .int _ _
  ·cases h
 ·cases h
theorem QZ {R:Ren} {w:World} {x y v:V} {x' y':Value} {H H':EH} (hx:VR R x x') (hy:VR R y y') (h:J4 x y H=some (v,H')) (ts:Array TypeId) (ty:TypeId):H'=H∧PR P R w (Builtin.min_ ts ty #[x',y']) v:=by
 unfold J4 at h
 split at h
 ·rename_i k a k' b
  cases h;cases hx;cases hy
  refine ⟨rfl,.int k (if b<a then b else a),rfl,?_⟩
  rw [oQ]
  by_cases e:a≤b
  ·rw [decide_eq_true e,if_neg (by omega)];exact .int _ _
  ·rw [decide_eq_false e,if_pos (by omega)];exact .int _ _
 ·cases h
theorem PD {R:Ren} {w:World} {x y v:V} {x' y':Value} {H H':EH} (hx:VR R x x') (hy:VR R y y') (h:KL x y H=some (v,H')) (ts:Array TypeId) (ty:TypeId):H'=H∧PR P R w (Builtin.max_ ts ty #[x',y']) v:=by
 unfold KL at h
 split at h
 ·rename_i k a k' b
  cases h;cases hx;cases hy
  refine ⟨rfl,.int k (if b>a then b else a),rfl,?_⟩
  rw [oQ]
  by_cases e:b≤a
  ·rw [decide_eq_true e,if_neg (by omega)];exact .int _ _
  ·rw [decide_eq_false e,if_pos (by omega)];exact .int _ _
 ·cases h
end Go.Ev
/- Values out of parts; new variables, rows and maps; reading and writing maps. -/
namespace Go.Ev
open Go
variable {P:Program}
theorem Og (off:Nat):∀ (l:List Value) (j:Nat) (cells:Array Value),off+j+l.length≤cells.size →
 ∃ cs',(l.zipIdx j).foldl (fun cs (p:Value×Nat)=>cs.setIfInBounds (off+p.2) p.1) cells=cs'∧cs'.size=cells.size∧∀ k,cs'[k]?=if off+j≤k∧k<off+j+l.length then l[k-(off+j)]? else cells[k]?:=by
 intro l
 induction l with
 | nil=>intro j cells _;exact ⟨cells,rfl,rfl,fun k=>by rw [if_neg (by simp)]⟩
 | cons v l ih =>
  intro j cells h
  simp only [List.length_cons] at h
  have hsz:(cells.setIfInBounds (off+j) v).size=cells.size:=by simp
  obtain ⟨cs',e1,e2,e3⟩:=ih (j+1) (cells.setIfInBounds (off+j) v) (by rw [hsz];omega)
  refine ⟨cs',by rw [List.zipIdx_cons,List.foldl_cons];exact e1,e2.trans hsz,fun k=>?_⟩
  rw [e3]
  simp only [List.length_cons]
  by_cases hk:off+(j+1)≤k∧k<off+(j+1)+l.length
  ·rw [if_pos hk,if_pos (by omega)]
   obtain ⟨d,rfl⟩:∃ d,k=off+(j+1)+d:=⟨k-(off+(j+1)),by omega⟩
   rw [show off+(j+1)+d-(off+(j+1))=d by omega,show off+(j+1)+d-(off+j)=d+1 by omega];rfl
  ·rw [if_neg hk]
   by_cases e:k=off+j
   ·have hlt:k<cells.size:=by omega
    rw [if_pos (by omega),← e,Array.getElem?_setIfInBounds_self_of_lt hlt,Nat.sub_self];rfl
   ·rw [if_neg (by omega),Array.getElem?_setIfInBounds_ne (fun q=>e q.symm)]
theorem QN (off:Nat) (v:Array Value) (cells:Array Value) (h:off+v.size≤cells.size) :
 ∃ cs',v.zipIdx.foldl (fun cs (c,j)=>cs.setIfInBounds (off+j) c) cells=cs'∧cs'.size=cells.size∧∀ k,cs'[k]?=if off≤k∧k<off+v.size then v[k-off]? else cells[k]?:=by
 obtain ⟨cs',e1,e2,e3⟩:=Og off v.toList 0 cells (by simpa using h)
 refine ⟨cs',?_,e2,fun k=>by rw [e3];simp⟩
 rw [← Array.foldl_toList,Array.toList_zipIdx];exact e1
theorem JD {c c':T V} {off size:Nat} {v:V} (h:rJ c off size v=some c'):∃ src,gB v=some (size,src)∧gQ src size 0 off c=some c':=by
 unfold rJ at h
 cases hc:gB v with
 | none=>rw [hc] at h;cases h
 | some p =>
  obtain ⟨n,src⟩:=p
  rw [hc] at h
  simp only [aH] at h
  split at h
  ·rename_i e;subst e;exact ⟨src,rfl,h⟩
  ·cases h
theorem zY {R:Ren} {tot off size:Nat} {c c':T V} {cells:Array Value} {v:V} {x:Value} (hc:CR R tot c cells) (hv:VR R v x) (h:rJ c off size v=some c') (hle:off+size≤tot) (place:Nat→Option (Nat×Nat)) (i:Nat) (hp:place i=some (off,size)) (rest:List (Nat×Value)) :
 ∃ cells',Instr.fill place cells ((i,x)::rest)=Instr.fill place cells' rest∧CR R tot c' cells':=by
 obtain ⟨src,h1,h2⟩:=JD h
 obtain ⟨z1,z2⟩:=CR.of_cells hv h1
 obtain ⟨cs',e1,e2,e3⟩:=QN off x.cells cells (by rw [hc.1,z1];exact hle)
 refine ⟨cs',?_,e2.trans hc.1,fun k hk=>?_⟩
 ·show (match place i with | none=>none | some (off,size)=>if x.cells.size≠size||off+x.cells.size>cells.size then none else Instr.fill place (x.cells.zipIdx.foldl (fun cs (c,j)=>cs.setIfInBounds (off+j) c) cells) rest)=_
  rw [hp]
  simp only
  rw [if_neg (by simp [z1,hc.1];omega),e1]
 ·obtain ⟨g1,g2⟩:=ku src size 0 off c c' h2
  rw [e3,z1]
  by_cases hin:off≤k∧k<off+size
  ·rw [if_pos hin]
   obtain ⟨a,b,a1,a2,a3,a4⟩:=z2 (k-off) (by omega)
   obtain ⟨u,u1,u2⟩:=g1 (k-off) (by omega)
   rw [Nat.zero_add,a1] at u1;cases u1
   rw [show off+(k-off)=k by omega] at u2
   exact ⟨a,b,u2,a2,a3,a4⟩
  ·rw [if_neg hin]
   obtain ⟨a,b,a1,a2,a3,a4⟩:=hc.2 k hk
   exact ⟨a,b,(g2 k (by omega)).trans a1,a2,a3,a4⟩
theorem yz {R:Ren} {size tot:Nat} {a:EA} {ρ:Operand→Value}:∀ (l:List (Nat×Operand)) (c c':T V) (cells:Array Value),(∀ p,p∈l→VR R (a.eval p.2) (ρ p.2))→CR R tot c cells→EI size tot a l c=some c' →
 ∃ cells',Instr.fill (fun i=>some (i*size,size)) cells (l.map fun (i,x)=>(i,ρ x))=some cells'∧CR R tot c' cells':=by
 intro l
 induction l with
 | nil=>intro c c' cells _ hc h;cases h;exact ⟨cells,rfl,hc⟩
 | cons p l ih =>
  intro c c' cells hρ hc h
  have h':cond (Nat.ble (p.1*size+size) tot) (match rJ c (p.1*size) size (a.eval p.2) with | none=>none | some c=>EI size tot a l c) none=some c':=h
  rw [bg] at h'
  split at h'
  ·rename_i hle
   cases hf:rJ c (p.1*size) size (a.eval p.2) with
   | none=>rw [hf] at h';cases h'
   | some c1 =>
    rw [hf] at h'
    obtain ⟨cells1,e1,e2⟩:=zY hc (hρ p (by simp)) hf hle (fun i=>some (i*size,size)) p.1 rfl (l.map fun (i,x)=>(i,ρ x))
    obtain ⟨cells',e3,e4⟩:=ih c1 c' cells1 (fun q hq=>hρ q (by simp [hq])) e2 h'
    exact ⟨cells',by rw [List.map_cons];exact e1.trans e3,e4⟩
  ·cases h'
theorem Jb {R:Ren} {fields:Array Field} {places:Array (Nat×Nat)} (hpl:∀ (i:Nat) (f:Field),fields[i]?=some f→∀ s,dm P f.type=some s→places[i]?=some (f.offset,s)) {tot:Nat} {a:EA} {ρ:Operand→Value}:∀ (l:List (Nat×Operand)) (c c':T V) (cells:Array Value),(∀ p,p∈l→VR R (a.eval p.2) (ρ p.2))→CR R tot c cells→Q8 P fields tot a l c=some c' →
 ∃ cells',Instr.fill (places[·]?) cells (l.map fun (i,x)=>(i,ρ x))=some cells'∧CR R tot c' cells':=by
 intro l
 induction l with
 | nil=>intro c c' cells _ hc h;cases h;exact ⟨cells,rfl,hc⟩
 | cons p l ih =>
  intro c c' cells hρ hc h
  have h':(match fields[p.1]? with
   | none=>none
   | some f=>match dm P f.type with
    | none=>none
    | some size=>cond (Nat.ble (f.offset+size) tot) (match rJ c f.offset size (a.eval p.2) with | none=>none | some c=>Q8 P fields tot a l c) none)=some c':=h
  cases hfi:fields[p.1]? with
  | none=>rw [hfi] at h';cases h'
  | some f =>
   rw [hfi] at h'
   simp only at h'
   cases hs:dm P f.type with
   | none=>rw [hs] at h';cases h'
   | some size =>
    rw [hs] at h'
    simp only [bg] at h'
    split at h'
    ·rename_i hle
     cases hf:rJ c f.offset size (a.eval p.2) with
     | none=>rw [hf] at h';cases h'
     | some c1 =>
      rw [hf] at h'
      obtain ⟨cells1,e1,e2⟩:=zY hc (hρ p (by simp)) hf hle (places[·]?) p.1 (hpl _ _ hfi _ hs) (l.map fun (i,x)=>(i,ρ x))
      obtain ⟨cells',e3,e4⟩:=ih c1 c' cells1 (fun q hq=>hρ q (by simp [hq])) e2 h'
      exact ⟨cells',by rw [List.map_cons];exact e1.trans e3,e4⟩
    ·cases h'
theorem Cj {t:TypeId} (h:tV P t=true):∃ i,P.info? t=some i:=by
 unfold tV at h
 cases e:P.info? t with
 | none=>rw [e] at h;cases h
 | some i=>exact ⟨i,rfl⟩
theorem run_places {w:World}:∀ (l:List Field),wU P l=true→∃ ps:List (Nat×Nat),(l.mapM fun f=>(do pure (f.offset,← sizeOf f.type):Sem (Nat×Nat))).run P w = .ok ps w∧∀ (i:Nat) (f:Field),l[i]?=some f→∀ s,dm P f.type=some s→ps[i]?=some (f.offset,s):=by
 intro l
 induction l with
 | nil=>intro _;exact ⟨[],rfl,fun i f h=>by simp at h⟩
 | cons f l ih =>
  intro h
  have h':cond (tV P f.type) (wU P l) false=true:=h
  cases hi:tV P f.type with
  | false=>rw [hi] at h';cases h'
  | true =>
   rw [hi] at h'
   obtain ⟨i,hi⟩:=Cj hi
   obtain ⟨ps,e1,e2⟩:=ih h'
   refine ⟨(f.offset,i.size)::ps,?_,fun k g hg s hs=>?_⟩
   ·rw [List.mapM_cons]
    rw [run_bind_ok (show (do pure (f.offset,← sizeOf f.type):Sem (Nat×Nat)).run P w = .ok (f.offset,i.size) w by rw [run_bind_ok (jm hi w)];rfl),run_bind_ok e1]
    rfl
   ·cases k with
    | zero =>
     simp at hg;subst hg
     obtain ⟨i',q1,q2⟩:=xR hs
     rw [hi] at q1;cases q1;simp [q2]
    | succ k=>simpa using e2 k g (by simpa using hg) s hs
theorem sJ {t:TypeId} {n:Nat} {z:T V} (h:lY P t=some (.agg n z)) (w:World):∃ cs,(zeroValue t).run P w = .ok (.agg cs) w∧∀ R,CR R n z cs:=by
 obtain ⟨z',e1,e2⟩:=ji h w
 obtain ⟨cs,rfl,_⟩:=CR.of_agg (e2 ⟨fun _=>none,fun _=>0,fun _ _=>none⟩)
 refine ⟨cs,e1,fun R=>?_⟩
 obtain ⟨cs',q,k⟩:=CR.of_agg (e2 R)
 cases q;exact k
theorem zh {n:Nat} {c:Option (T V)} {H H':EH} {v:V} (h:zM n c H=some (v,H')):∃ c',c=some c'∧v = .agg n c'∧H'=H:=by
 unfold zM at h
 cases c with
 | none=>cases h
 | some c'=>cases h;exact ⟨c',rfl,rfl,rfl⟩
theorem I4 {R:Ren} {w:World} {t:TypeId} {parts:Array (Nat×Operand)} {a:EA} {ρ:Operand→Value} {v:V} {H H':EH} (hρ:∀ p,p∈parts→VR R (a.eval p.2) (ρ p.2)) (h:ry P t parts a H=some (v,H')) :
 H'=H∧PR P R w (Instr.build t (parts.map fun (i,x)=>(i,ρ x))) v:=by
 unfold ry at h
 split at h
 ·rename_i fields n z hu hz
  cases hal:wU P fields.toList with
  | false=>rw [hal] at h;cases h
  | true =>
   rw [hal] at h
   obtain ⟨c',h1,rfl,rfl⟩:=zh h
   obtain ⟨cs,e1,e2⟩:=sJ hz w
   obtain ⟨ps,p1,p2⟩:=run_places (P:=P) (w:=w) fields.toList hal
   obtain ⟨cells',f1,f2⟩:=Jb (P:=P) (fields:=fields) (places:=ps.toArray) (fun i f hf s hs=>by simpa using p2 i f (by simpa using hf) s hs) (ρ:=ρ) parts.toList z c' cs (fun p hp=>hρ p (by simpa using hp)) (e2 R) h1
   refine ⟨rfl,.agg cells',?_,f2.agg⟩
   unfold Instr.build
   rw [run_bind_ok e1]
   simp only
   rw [run_bind_ok (aB hu w)]
   simp only
   rw [Array.mapM_eq_mapM_toList]
   rw [run_bind_ok (show (List.toArray <$> fields.toList.mapM fun f=>(do pure (f.offset,← sizeOf f.type):Sem (Nat×Nat))).run P w = .ok ps.toArray w by rw [Sem.run_map,p1];rfl)]
   have:(Array.map (fun (i,x)=>(i,ρ x)) parts).toList=parts.toList.map fun (i,x)=>(i,ρ x):=by simp
   rw [this,show (Value.agg cs).cells=cs from rfl,f1]
   rfl
 ·rename_i len elem n z hu hz
  cases hs:dm P elem with
  | none=>rw [hs] at h;cases h
  | some size =>
   rw [hs] at h
   obtain ⟨c',h1,rfl,rfl⟩:=zh h
   obtain ⟨cs,e1,e2⟩:=sJ hz w
   obtain ⟨cells',f1,f2⟩:=yz (ρ:=ρ) parts.toList z c' cs (fun p hp=>hρ p (by simpa using hp)) (e2 R) h1
   refine ⟨rfl,.agg cells',?_,f2.agg⟩
   unfold Instr.build
   rw [run_bind_ok e1]
   simp only
   rw [run_bind_ok (aB hu w)]
   simp only
   rw [run_bind_ok (bQ hs w)]
   have:(Array.map (fun (i,x)=>(i,ρ x)) parts).toList=parts.toList.map fun (i,x)=>(i,ρ x):=by simp
   rw [this,show (Value.agg cs).cells=cs from rfl,f1]
   rfl
 ·cases h
end Go.Ev
/- New rows of zeros, new maps; reading and writing maps. -/
namespace Go.Ev
open Go
variable {P:Program}
theorem NG (n:Nat) (z:T V) (m i:Nat) (c:T V):He n z (m+1) i c=(match gQ z n 0 i c with | some c=>He n z m (i+n) c | none=>none):=rfl
theorem OH (n:Nat) (z:T V):∀ (m i:Nat) (c c':T V),He n z m i c=some c'→(∀ k,k<m*n→∃ v,z.get (k%n)=some v∧c'.get (i+k)=some v)∧∀ k,k<i→c'.get k=c.get k:=by
 intro m
 induction m with
 | zero=>intro i c c' h;cases h;exact ⟨fun k hk=>by simp at hk,fun _ _=>rfl⟩
 | succ m ih =>
  intro i c c' h
  rw [NG] at h
  cases hc:gQ z n 0 i c with
  | none=>rw [hc] at h;cases h
  | some c1 =>
   rw [hc] at h
   obtain ⟨g1,g2⟩:=ku z n 0 i c c1 hc
   obtain ⟨e1,e2⟩:=ih (i+n) c1 c' h
   refine ⟨fun k hk=>?_,fun k hk=>by rw [e2 k (by omega),g2 k (by omega)]⟩
   rw [Nat.add_mul] at hk
   by_cases hkn:k<n
   ·obtain ⟨v,a1,a2⟩:=g1 k hkn
    exact ⟨v,by rw [Nat.mod_eq_of_lt hkn];rwa [Nat.zero_add] at a1,by rw [e2 _ (by omega)];exact a2⟩
   ·obtain ⟨v,a1,a2⟩:=e1 (k-n) (by omega)
    refine ⟨v,?_,by rw [show i+k=i+n+(k-n) by omega];exact a2⟩
    rw [← a1];congr 1
    have:k=(k-n)+n:=by omega
    conv=>lhs;rw [this,Nat.add_mod_right]
theorem qc {z:V} {len:Nat} {k:Nat→T V→VO} {r:V×EH} (h:Dz z len k=some r):∃ n c c',gB z=some (n,c)∧He n c len 0 .lf=some c'∧k n c'=some r:=by
 unfold Dz at h
 cases hc:gB z with
 | none=>rw [hc] at h;cases h
 | some p =>
  obtain ⟨n,c⟩:=p
  rw [hc] at h
  simp only at h
  cases hr:He n c len 0 .lf with
  | none=>rw [hr] at h;cases h
  | some c'=>rw [hr] at h;exact ⟨n,c,c',rfl,hr,h⟩
theorem sH {R:Ren} {n len:Nat} {z:V} {z':Value} (hz:VR R z z') {c c':T V} (hc:gB z=some (n,c)) (h:He n c len 0 .lf=some c'):CR R (len*n) c' ((Array.range (len*n)).map (z'.cells[·%z'.cells.size]!)):=by
 obtain ⟨z1,z2⟩:=CR.of_cells hz hc
 obtain ⟨g1,_⟩:=OH n c len 0 .lf c' h
 refine ⟨by simp,fun k hk=>?_⟩
 obtain ⟨v,a1,a2⟩:=g1 k hk
 have hn:0<n:=by
  rcases Nat.eq_zero_or_pos n with e | e
  ·subst e;simp at hk
  ·exact e
 obtain ⟨x,y,b1,b2,b3,b4⟩:=z2 (k%n) (Nat.mod_lt _ hn)
 rw [a1] at b1;cases b1
 refine ⟨v,y,by rwa [Nat.zero_add] at a2,b2,?_,b4⟩
 have hlt:=(Array.getElem?_eq_some_iff.1 b3).1
 simp only [Array.getElem?_map,z1]
 rw [show (Array.range (len*n))[k]?=some k by simp [hk]]
 simp only [Option.map_some]
 congr 1
 rw [getElem!_pos z'.cells (k%n) hlt]
 exact (Array.getElem?_eq_some_iff.1 b3).2
theorem LV (H:EH) (n:Nat) (c:T V) (len e:Nat):H.newRow n c len e=some (.slice H.next 0 len e,⟨H.objs.set H.next (.cells c 0 n H.next),H.next+1,H.grps,H.low⟩):=by unfold EH.newRow;rw [xk]
theorem vT {R:Ren} {S:Nat→Prop} {H H':EH} {w:World} (hr:Rel R S H w) (hw:WF H) (hf:Free R H H') {n len cap e:Nat} {c:T V} {cs:Array Value} {v:V} (hc:CR R n c cs) (hl:len≤cap) (hn:cap*e=n) (h:H.newRow n c len e=some (v,H')) (elem:TypeId) :
 Good P R S H w (do pure (.slice (some (← newRow elem cs)) len cap)) v H' (fun _=>False):=by
 rw [LV] at h
 cases h
 obtain ⟨w',R',e1,e2,e3,e4⟩:=wS (P:=P) hr hw (hf _ (Nat.le_refl _) (Nat.lt_succ_self _)).1 hc.2 elem
 refine ⟨_,w',R',by rw [run_bind_ok e1];rfl,.slice e3 (fun _=>rfl) hl ?_,e2⟩
 rw [e4,hc.1];omega
theorem wF {R:Ren} {S:Nat→Prop} {H H':EH} {w:World} (hr:Rel R S H w) (hw:WF H) (hf:Free R H H') {t:TypeId} {len:Nat} {parts:Array (Nat×Operand)} {a:EA} {ρ:Operand→Value} {v:V} (hρ:∀ p,p∈parts→VR R (a.eval p.2) (ρ p.2))
 (h:iT P t len parts a H=some (v,H')):Good P R S H w (Instr.buildSlice t len (parts.map fun (i,x)=>(i,ρ x))) v H' (fun _=>False):=by
 unfold iT at h
 split at h
 ·rename_i elem hu
  rw [aH] at h
  by_cases hlen0:len=0
  ·rw [if_pos hlen0,aH] at h
   by_cases hp0:parts.size=0
   ·rw [if_pos hp0] at h
    split at h
    ·rename_i size hs
     split at h
     ·rename_i z hz
      rw [dA] at h
      cases h
      obtain ⟨z',e1,e2⟩:=ji hz w
      have hp:parts=#[]:=Array.eq_empty_of_size_eq_zero hp0
      subst hp
      subst hlen0
      obtain ⟨R',s1,s2,s3⟩:=KF (cs:=#[]) (t:=elem) (fz:=(0,0)) (w':={ w with heap:=w.heap.push (.cells #[] elem) }) hr hw (hf _ (Nat.le_refl _) (Nat.lt_succ_self _)) (WA.push _ _)
      refine ⟨.slice (some ⟨w.heap.size,0,none⟩) 0 0,_,R',?_,.fzE (fun _ _=>rfl),s1⟩
      unfold Instr.buildSlice
      rw [run_bind_ok (aB hu w)]
      simp only
      rw [run_bind_ok (bQ hs w),if_neg (by omega),if_pos (Nat.zero_mul _),run_bind_ok (show (pure #[]:Sem (Array Value)).run P w = .ok #[] w from rfl),Nat.zero_mul]
      simp only [show Array.range 0=#[] by simp,Array.map_empty]
      rfl
     ·cases h
    ·cases h
   ·rw [if_neg hp0] at h;cases h
  rw [if_neg hlen0] at h
  split at h
  ·rename_i size z hs hz
   obtain ⟨n,c,c',q1,q2,q3⟩:=qc h
   simp only [aH,bg] at q3
   split at q3
   ·rename_i en
    subst en
    split at q3
    ·rename_i hle
     have hle':len*n≤65536:=hle
     unfold rowOf at q3
     cases hfl:EI n (Nat.mul len n) a parts.toList c' with
     | none=>rw [hfl] at q3;cases q3
     | some c2 =>
      rw [hfl] at q3
      simp only at q3
      obtain ⟨z',e1,e2⟩:=ji hz w
      have hzr:=sH (e2 R) q1 q2
      have hpt:(Array.map (fun (i,x)=>(i,ρ x)) parts).toList=parts.toList.map fun (i,x)=>(i,ρ x):=by simp
      obtain ⟨zz1,_⟩:=CR.of_cells (e2 R) q1
      obtain ⟨cells',f1,f2⟩:=yz (ρ:=ρ) parts.toList c' c2 _ (fun p hp=>hρ p (by simpa using hp)) hzr hfl
      obtain ⟨x,w',R',g1,g2,g3⟩:=vT (P:=P) hr hw hf (cap:=len) f2 (Nat.le_refl _) rfl q3 elem
      refine ⟨x,w',R',?_,g2,g3⟩
      rw [← g1]
      unfold Instr.buildSlice
      rw [run_bind_ok (aB hu w)]
      simp only
      rw [run_bind_ok (bQ hs w),if_neg (by omega)]
      by_cases h0:len*n=0
      ·rw [if_pos h0,run_bind_ok (show (pure #[]:Sem (Array Value)).run P w = .ok #[] w from rfl)]
       have hz2:(Array.range (len*n)).map ((#[]:Array Value)[·%(#[]:Array Value).size]!)=(Array.range (len*n)).map (z'.cells[·%z'.cells.size]!):=by rw [h0];simp
       rw [hz2,hpt,f1]
      ·rw [if_neg h0,run_bind_ok e1,run_bind_ok (show (pure z'.cells:Sem (Array Value)).run P w = .ok z'.cells w from rfl),hpt,f1]
    ·cases q3
   ·cases q3
  ·cases h
 ·cases h
end Go.Ev
/- make, new variables; maps. -/
namespace Go.Ev
open Go
variable {P:Program}
theorem IJ {R:Ren} {S:Nat→Prop} {H H':EH} {w:World} (hr:Rel R S H w) (hw:WF H) (hf:Free R H H') {t:TypeId} {v:V} (h:rP P t H=some (v,H')):Good P R S H w (Instr.alloc t true (.tuple #[])) v H' (fun _=>False):=by
 unfold rP at h
 cases hz:lY P t with
 | none=>rw [hz] at h;cases h
 | some z =>
  rw [hz] at h
  obtain ⟨z',e1,e2⟩:=ji hz w
  obtain ⟨x,w',R',g1,g2,g3⟩:=vw (P:=P) hr hw hf (e2 R) h t
  refine ⟨x,w',R',?_,g2,g3⟩
  unfold Instr.alloc
  rw [run_bind_ok e1]
  exact g1
theorem sW {R:Ren} {S:Nat→Prop} {H H':EH} {w:World} (hr:Rel R S H w) (hw:WF H) (hf:Free R H H') {t:TypeId} {v:V} (h:iY H=some (v,H')):Good P R S H w (Instr.makeMap t none) v H' (fun _=>False):=by
 unfold iY at h
 rw [dA] at h
 cases h
 obtain ⟨R',h1,h2,h3⟩:=um (w':={ w with heap:=w.heap.push (.map #[] 0) }) hr hw (hf _ (Nat.le_refl _) (Nat.lt_succ_self _)).1 (.map [] 0) rfl (.map #[] 0) 0 (fun R' hle hb hz=>⟨rfl,#[],0,by simp,fun _=>⟨rfl,⟨⟨[],rfl,.refl _,(fun p hp=>by cases hp)⟩,.nil,(fun x hx=>by cases hx)⟩⟩⟩) (WA.push w _)
 exact ⟨_,_,R',rfl,.map h2,h1⟩
theorem zB {R:Ren} {S:Nat→Prop} {H H':EH} {w:World} (hr:Rel R S H w) (hw:WF H) (hf:Free R H H') {t:TypeId} {r v:V} {r':Value} (hx:VR R r r') (h:kU P t r H=some (v,H')):Good P R S H w (Instr.makeMap t (some r')) v H' (fun _=>False):=by
 unfold kU at h
 split at h
 ·rename_i a b k n hu
  cases hx
  obtain ⟨x,w',R',g1,g2,g3⟩:=sW (P:=P) hr hw hf (t:=t) h
  refine ⟨x,w',R',?_,g2,g3⟩
  rw [← g1]
  unfold Instr.makeMap
  show (((underlying t:Sem _) >>= _).run P w)=_
  rw [run_bind_ok (run_underlying hu w)]
  rfl
 ·cases h
theorem uY {w:World} {ts:Array TypeId} {ty:TypeId} {args:Array Value} {st xt elem:TypeId} {ik kx:IntKind} {m e:Nat} (ht0:ts[0]?=some st) (ht1:ts[1]?=some xt)
 (ha0:args[0]?=some (.slice none 0 0)) (ha1:args[1]?=some (.int kx (Int.ofNat m))) (hu:P.underlying st=some (.slice elem)) (hu2:P.underlying xt=some (.int ik)) (he:dm P elem=some e)
 (hm:0<m) (hm2:m≤65536) (hok:AppOk P elem e m) :
 ∃ (newCap:Nat) (rest:Array Value) (z:Value),(∀ w,(zeroValue elem).run P w = .ok z w)∧z.cells.size=e∧m≤newCap∧rest.size=(newCap-m)*e ∧
  (Builtin.append_ ts ty args).run P w=(do pure (Value.slice (some (← newRow elem (#[]++Builtin.zeroCells z.cells m++rest))) (0+m) newCap):Sem Value).run P { w with drawn:=w.drawn+1 }:=by
 obtain ⟨i,z,hi,hb,hz,hze⟩:=hok.info
 obtain ⟨nc,c1,c2⟩:=oM (P:=P) (w:=w) (need:=0+m) (old:=0) (elem:=elem)
 have hzv:∀ w,(zeroValue elem).run P w = .ok z w:=fun w=>by
  unfold zeroValue;rw [run_bind_ok (eP hi w),hz];rfl
 have hpos:=hok.pos
 refine ⟨nc,Builtin.zeroCells z.cells (nc-(0+m)),z,hzv,hze,by omega,by rw [nT,hze,Nat.zero_add],?_⟩
 have hle:=hok.le
 have w1:IntKind.i64.wrap (Int.ofNat m)=(m:Int):=wrap_small (n:=(m:Int)) (by omega) (by omega)
 have hbi:((m:Int)*(i.bytes:Int))≤281474976710656:=by
  rw [← Int.natCast_mul]
  have:m*i.bytes≤(2*m+200)*i.bytes:=Nat.mul_le_mul_right _ (by omega)
  omega
 have hn1:¬ (((0+m:Nat):Int)>IntKind.i64.max∧(True∨i.bytes=0)):=by
  have e1:IntKind.i64.max=9223372036854775807:=by decide
  rw [e1];omega
 have hn2:¬ (Builtin.nextslicecap (0+m) 0*i.bytes>2^48):=by
  have h1:=yj (need:=0+m) (old:=0) (by omega)
  have h2:Builtin.nextslicecap (0+m) 0*i.bytes≤(2*(0+m)+200)*i.bytes:=Nat.mul_le_mul_right _ h1
  rw [Nat.zero_add] at h2
  rw [Nat.zero_add]
  omega
 have h0:¬ (m*e=0):=by
  have:=Nat.mul_pos hm hpos
  omega
 unfold Builtin.append_
 simp only [ht0,ht1,ha0,ha1]
 rw [run_bind_ok (aB hu w)]
 dsimp only
 rw [run_bind_ok (bQ he w),run_bind_ok (aB hu2 w)]
 dsimp only
 rw [run_bind_ok (show (pure true:Sem Bool).run P w = .ok true w from rfl),if_pos rfl,run_bind_ok (show (asInt (.int kx (Int.ofNat m))).run P w = .ok (Int.ofNat m) w from rfl)]
 simp only [w1]
 rw [if_neg (by omega),run_bind_ok (eP hi w),if_neg (by omega)]
 simp only [Int.toNat_natCast]
 rw [run_bind_ok (show (pure m:Sem Nat).run P w = .ok m w from rfl),if_neg (by omega)]
 rw [run_bind_ok (eP hi w),if_neg hn1]
 try dsimp only
 rw [run_bind_ok (eP hi w),if_neg hn2]
 try dsimp only
 rw [run_bind_ok c1,run_bind_ok (eP hi _),run_bind_ok (run_askRoom _ _),run_bind_ok (qV none)]
 simp only [Bool.not_true,if_neg h0,Bool.false_eq_true,if_false]
 have hcells:∀ w,(do let l←zeroValue elem;pure (Builtin.zeroCells l.cells m):Sem (Array Value)).run P w = .ok (Builtin.zeroCells z.cells m) w:=fun w=>by
  rw [run_bind_ok (hzv w)];rfl
 rw [run_bind_ok (hcells _),run_bind_ok (hzv _)]
theorem NT {R:Ren} {S:Nat→Prop} {H H':EH} {w:World} (hr:Rel R S H w) (hw:WF H) (hf:Free R H H') {ts:Array TypeId} {ty:TypeId} {args:Array Value} {st xt:TypeId} {s x v:V} {s' x':Value}
 (ht0:ts[0]?=some st) (ht1:ts[1]?=some xt) (ha0:args[0]?=some s') (ha1:args[1]?=some x') (hs:VR R s s') (hx:VR R x x') (hi:qJ (P.underlying xt)=true) (h:Nj P st s x H=some (v,H')) :
 Good P R S H w (Builtin.append_ ts ty args) v H' (fun _=>False):=by
 unfold Nj at h
 split at h
 ·rename_i elem kx m hu
  split at h
  ·rename_i e z he hz
   simp only [dB,bg] at h
   split at h
   ·rename_i hm
    split at h
    ·rename_i hm2
     cases hok:l9 P elem e m with
     | false=>rw [hok] at h;cases h
     | true =>
      rw [hok] at h
      have hok:=qO hok
      obtain ⟨q,c0,c1,q1,q2,q3⟩:=qc h
      rw [aH] at q3
      split at q3
      ·rename_i eq
       subst eq
       cases hs;cases hx
       obtain ⟨ik,hu2⟩:∃ ik,P.underlying xt=some (.int ik):=by
        unfold qJ at hi
        split at hi
        ·rename_i ik h;exact ⟨ik,h⟩
        ·cases hi
       obtain ⟨z',e1,e2⟩:=ji hz w
       have hzr:=sH (e2 R) q1 q2
       obtain ⟨nc,rest,z2,k0,k1,k2,k3,k4⟩:=uY (P:=P) (w:=w) (ty:=ty) ht0 ht1 ha0 ha1 hu hu2 he hm hm2 hok
       have hzz:z2=z':=by
        have:=k0 w
        rw [e1] at this
        cases this;rfl
       subst hzz
       have hzc:Builtin.zeroCells z2.cells m=(Array.range (m*q)).map (z2.cells[·%z2.cells.size]!):=by
        show (Array.range (m*z2.cells.size)).map (fun i=>z2.cells[i%z2.cells.size]!)=_
        rw [k1]
       have hdr:Rel R S H { w with drawn:=w.drawn+1 }:=⟨hr.img,fun b o r d a c=>(hr.obj b o r d a c).mono (.refl R) c rfl id id,hr.inj,hr.frz⟩
       unfold EH.newRow at q3
       rw [xk] at q3
       cases q3
       rw [← hzc] at hzr
       obtain ⟨hz1,hz2⟩:=hzr
       obtain ⟨w',R',f1,f2,f3,f4⟩:=wS (P:=P) (n:=m*q) (c:=c1) (cs:=#[]++Builtin.zeroCells z2.cells m++rest) hdr hw (hf _ (Nat.le_refl _) (Nat.lt_succ_self _)).1 (fun i hi=>by
        obtain ⟨a,b,y1,y2,y3,y4⟩:=hz2 i hi
        refine ⟨a,b,y1,y2,?_,y4⟩
        rw [Array.getElem?_append_left (by simp only [Array.size_append,Array.size_empty];omega)];simpa using y3) elem
       refine ⟨_,w',R',by rw [k4,run_bind_ok f1];rfl,?_,f2.drawn⟩
       have hzs:0+nc*q≤R'.zs w.heap.size:=by
        show _≤R'.zs ({ w with drawn:=w.drawn+1 }:World).heap.size
        rw [f4]
        simp only [Array.size_append,Array.size_empty,k3,hz1]
        have:nc*q=(nc-m)*q+m*q:=by rw [← Nat.add_mul];congr 1;omega
        omega
       have hv:VR R' (.slice H.next 0 (0+m) q) (.slice (some ⟨w.heap.size,0,none⟩) (0+m) nc) := .slice f3 (fun _=>rfl) (by omega) hzs
       rw [Nat.zero_add] at hv ⊢
       exact hv
      ·cases q3
    ·cases h
   ·cases h
  ·cases h
 ·cases h
theorem C9 {t:TypeId} {m:Nat} (h:wR P t m=true):∃ i,P.info? t=some i∧i.bytes*m≤281474976710656:=by
 unfold wR at h
 cases hi:P.info? t with
 | none=>rw [hi] at h;cases h
 | some i=>rw [hi] at h;exact ⟨i,rfl,Nat.le_of_ble_eq_true h⟩
theorem yu {R:Ren} {S:Nat→Prop} {H H':EH} {w:World} (hr:Rel R S H w) (hw:WF H) (hf:Free R H H') {t:TypeId} {l c v:V} {l' c':Value} (hl:VR R l l') (hc:VR R c c') (h:jo P t l c H=some (v,H')) :
 Good P R S H w (Instr.makeSlice t l' c') v H' (fun _=>False):=by
 unfold jo at h
 split at h
 ·rename_i elem k n k' m hu
  split at h
  ·rename_i size z hs hz
   simp only [bg] at h
   split at h
   ·rename_i hnm
    split at h
    ·rename_i hm
     cases hb:wR P elem m with
     | false=>rw [hb] at h;cases h
     | true =>
      rw [hb] at h
      obtain ⟨i,hi,hb⟩:=C9 hb
      obtain ⟨q,c0,c1,q1,q2,q3⟩:=qc h
      rw [aH] at q3
      split at q3
      ·rename_i eq
       subst eq
       cases hl;cases hc
       obtain ⟨z',e1,e2⟩:=ji hz w
       have hzr:=sH (e2 R) q1 q2
       obtain ⟨x,w',R',g1,g2,g3⟩:=vT (P:=P) hr hw hf (cap:=m) hzr hnm rfl q3 elem
       refine ⟨x,w',R',?_,g2,g3⟩
       rw [← g1]
       have w1:IntKind.i64.wrap (Int.ofNat n)=(n:Int):=wrap_small (n:=(n:Int)) (by omega) (by omega)
       have w2:IntKind.i64.wrap (Int.ofNat m)=(m:Int):=wrap_small (n:=(m:Int)) (by omega) (by omega)
       have hbi:((i.bytes:Int)*(m:Int))≤281474976710656:=by rw [← Int.natCast_mul];omega
       unfold Instr.makeSlice
       rw [run_bind_ok (aB hu w)]
       simp only
       rw [run_bind_ok (show (asInt (.int k (Int.ofNat n))).run P w = .ok (Int.ofNat n) w from rfl),run_bind_ok (show (asInt (.int k' (Int.ofNat m))).run P w = .ok (Int.ofNat m) w from rfl),run_bind_ok (eP hi w)]
       simp only [w1,w2]
       rw [if_neg (by intro hh;simp only [Bool.or_eq_true,decide_eq_true_eq] at hh;omega)]
       simp only [Int.toNat_natCast]
       rw [run_bind_ok (run_askRoom _ w),run_bind_ok (bQ hs w)]
       by_cases h0:m*q=0
       ·rw [if_pos h0,run_bind_ok (show (pure #[]:Sem (Array Value)).run P w = .ok #[] w from rfl)]
        have hz2:(Array.range (m*q)).map ((#[]:Array Value)[·%(#[]:Array Value).size]!)=(Array.range (m*q)).map (z'.cells[·%z'.cells.size]!):=by rw [h0];simp
        rw [hz2]
       ·rw [if_neg h0,run_bind_ok e1,run_bind_ok (show (pure z'.cells:Sem (Array Value)).run P w = .ok z'.cells w from rfl)]
      ·cases q3
    ·cases h
   ·cases h
  ·cases h
 ·cases h
theorem Bz (t:TypeId) (n:Nat) (c d:T V):uS P t n c d=jq P t n c d:=by
 unfold uS
 split
 ·rename_i h
  split
  ·rename_i h2
   unfold MQ at h
   unfold jq
   split at h
   ·rename_i fs hu
    rw [hu]
    cases hf:qA P t fs n with
    | false=>rw [hf] at h;cases h
    | true =>
     rw [hf] at h
     have h:Yc P fs.toList = .int:=h
     show some false=cond (qA P t fs n) (yN P fs.toList c d 0) (cond (iM P t n) (vP P c d 4 t 0) none)
     rw [hf,cond_true]
     cases hl:fs.toList with
     | nil=>rw [hl] at h;cases h
     | cons f l =>
      rw [hl] at h
      have h:fk P f.type = .int:=h
      show some false=(match eqK (fk P f.type) (c.get 0) (d.get 0) with | some true=>yN P l c d (Nat.succ 0) | r=>r)
      rw [h,h2]
   ·cases h
  ·rfl
 ·rfl
theorem Ob {R:Ren} {w:World} {t:TypeId} {x y:V} {x' y':Value} (hx:VR R x x') (hy:VR R y y') {b:Bool} (h:fC P t x y=some b):(Op.equal t x' y').run P w = .ok b w:=by
 unfold fC at h
 split at h
 ·rename_i n c n' d
  rw [aH] at h
  split at h
  ·rename_i e
   subst e
   obtain ⟨cs,rfl,hc⟩:=CR.of_agg hx
   obtain ⟨ds,rfl,hd⟩:=CR.of_agg hy
   rw [Bz] at h
   exact zX hc hd h 9998 (by omega)
  ·cases h
 ·exact wJ hx hy h
def FR (R:Ren):Option (Nat×V)→Option (Nat×Value)→Prop
 | none,none=>True
 | some (i,v),some (j,x)=>i=j∧VR R v x
 | _,_=>False
theorem XO {t:TypeId} {n:Nat} {c:T V} {kk:IntKind} {a:Int} (hf:MQ P t n = .int) (hc:c.get 0=some (.int kk a)) (k':V):q1 P t n c kk a k'=fC P t (.agg n c) k':=by
 cases k' with
 | agg n' d =>
  show (Bool.rec (motive:=fun _=>Option Bool) none (q2 P t n c kk a d (d.get 0)) (Nat.beq n n'):Option Bool)=cond (Nat.beq n n') (uS P t n c d) none
  have e:q2 P t n c kk a d (d.get 0)=uS P t n c d:=by
   unfold q2 uS
   rw [hf,hc]
   simp only
   split
   ·rename_i k2 b hd
    rw [hd]
    show (Bool.rec _ _ (gz kk k2):Option Bool)=(match cond (gz kk k2) (some (aK a b)) none with | some false=>some false | _=>jq P t n c d)
    cases gz kk k2 with
    | false=>rfl
    | true=>cases aK a b<;>rfl
   ·rename_i hno
    split
    ·rename_i h
     exfalso
     generalize d.get 0=o at h hno
     cases o with
     | none=>cases h
     | some y=>cases y<;>first | (cases h;done) | exact hno _ _ rfl
    ·rfl
  rw [e]
  cases Nat.beq n n'<;>rfl
 | _=>rfl
theorem Gu {t:TypeId} {n:Nat} {c:T V} {kk:IntKind} {a:Int} (hf:MQ P t n = .int) (hc:c.get 0=some (.int kk a)):∀ (l:List (V×V×Nat)) (i:Nat),OE P t n c kk a l i=yU P t (.agg n c) l i
 | [],_=>rfl
 | e::es,i=>by
  show (match q1 P t n c kk a e.1 with | some true=>cond (kZ P t (.agg n c) es) (some (some (i,e.2.1))) none | some false=>OE P t n c kk a es (i+1) | none=>none)=(match fC P t (.agg n c) e.1 with | some true=>cond (kZ P t (.agg n c) es) (some (some (i,e.2.1))) none | some false=>yU P t (.agg n c) es (i+1) | none=>none)
  rw [XO hf hc,Gu hf hc es]
theorem yT (t:TypeId) (k:V) (l:List (V×V×Nat)) (i:Nat):gu P t k l i=yU P t k l i:=by
 cases k with
 | agg n c =>
  show QI P t n c (MQ P t n) (c.get 0) l i=_
  unfold QI
  split
  ·rename_i kk a h1 h2
   rw [yh];exact Gu h1 h2 l i
  ·rfl
 | _=>rfl
theorem jd (t:TypeId) (k:V) (e:V×V×Nat) (es:List (V×V×Nat)) (i:Nat):gu P t k (e::es) i=(match fC P t k e.1 with | some true=>cond (kZ P t k es) (some (some (i,e.2.1))) none | some false=>gu P t k es (i+1) | none=>none):=by
 rw [yT,yT];rfl
theorem l7 (t:TypeId) (k:V) (i:Nat):gu P t k [] i=some none:=by rw [yT];rfl
theorem pI {t:TypeId} {k:V}:∀ {l:List (V×V×Nat)},kZ P t k l=true↔∀ e,e∈l→fC P t k e.1=some false
 | []=>⟨fun _ e he=>(by cases he),fun _=>rfl⟩
 | x::l=>by
  have h0:kZ P t k (x::l)=(match fC P t k x.1 with | some false=>kZ P t k l | _=>false):=rfl
  rw [h0]
  cases hx:fC P t k x.1 with
  | none=>exact ⟨(fun h=>by cases h),(fun h=>by have:=h x (by simp);rw [hx] at this;cases this)⟩
  | some b =>
   cases b with
   | true=>exact ⟨(fun h=>by cases h),(fun h=>by have:=h x (by simp);rw [hx] at this;cases this)⟩
   | false =>
    refine ⟨fun h e he=>?_,fun h=>(pI (l:=l)).2 fun e he=>h e (by simp [he])⟩
    rcases List.mem_cons.1 he with rfl | he
    ·exact hx
    ·exact (pI (l:=l)).1 h e he
theorem mQ {t:TypeId} {k:V}:∀ {l:List (V×V×Nat)} {i:Nat},gu P t k l i=some none↔∀ e,e∈l→fC P t k e.1=some false
 | [],i=>⟨fun _ e he=>(by cases he),fun _=>l7 t k i⟩
 | x::l,i=>by
  rw [jd]
  cases hx:fC P t k x.1 with
  | none=>exact ⟨(fun h=>by cases h),(fun h=>by have:=h x (by simp);rw [hx] at this;cases this)⟩
  | some b =>
   cases b with
   | true=>exact ⟨(fun h=>by simp only at h;cases hn:kZ P t k l<;>rw [hn] at h<;>cases h),(fun h=>by have:=h x (by simp);rw [hx] at this;cases this)⟩
   | false =>
    refine ⟨fun h e he=>?_,fun h=>(mQ (l:=l)).2 fun e he=>h e (by simp [he])⟩
    rcases List.mem_cons.1 he with rfl | he
    ·exact hx
    ·exact (mQ (l:=l)).1 h e he
theorem BA {t:TypeId} {k:V}:∀ {l:List (V×V×Nat)} {i j:Nat} {v:V},gu P t k l i=some (some (j,v))→∃ pre e post,l=pre++e::post∧j=i+pre.length∧v=e.2.1∧fC P t k e.1=some true∧∀ x,x∈pre++post→fC P t k x.1=some false
 | [],i,j,v,h=>by rw [l7] at h;cases h
 | x::l,i,j,v,h=>by
  rw [jd] at h
  cases hx:fC P t k x.1 with
  | none=>rw [hx] at h;cases h
  | some b =>
   rw [hx] at h
   cases b with
   | true =>
    cases hn:kZ P t k l with
    | false=>simp only [hn] at h;cases h
    | true =>
     simp only [hn] at h
     cases h
     exact ⟨[],x,l,rfl,rfl,rfl,hx,fun e he=>pI.1 hn e (by simpa using he)⟩
   | false =>
    obtain ⟨pre,e,post,h1,h2,h3,h4,h5⟩:=BA (l:=l) h
    refine ⟨x::pre,e,post,by rw [h1];rfl,by rw [h2,List.length_cons];omega,h3,h4,fun y hy=>?_⟩
    rcases List.mem_cons.1 (show y∈x::(pre++post) from hy) with rfl | hy
    ·exact hx
    ·exact h5 y hy
theorem G8 {t:TypeId} {k:V} {e:V×V×Nat} {post:List (V×V×Nat)} (h4:fC P t k e.1=some true):∀ {pre:List (V×V×Nat)} {i:Nat},(∀ x,x∈pre++post→fC P t k x.1=some false)→gu P t k (pre++e::post) i=some (some (i+pre.length,e.2.1))
 | [],i,h=>by
  rw [List.nil_append,jd,h4]
  simp only
  rw [(pI).2 fun x hx=>h x (by simpa using hx)]
  rfl
 | x::pre,i,h=>by
  rw [List.cons_append,jd,h x (by simp)]
  simp only
  rw [G8 h4 (pre:=pre) (i:=i+1) fun y hy=>h y (by simp at hy ⊢;exact .inr hy),List.length_cons]
  rw [show i+1+pre.length=i+(pre.length+1) by omega]
theorem oq {R:Ren} {w:World} {t:TypeId} {k:V} {k':Value} (hk:VR R k k'):∀ (es:List (V×V×Nat)) (es':List MapEntry) (i:Nat) (r:Option (Nat×V)),ER R es es'→gu P t k es i=some r→∃ r',(Instr.findAsking t k' es' i).run P w = .ok r' w∧FR R r r'
 | [],[],i,r,_,h=>by rw [l7] at h;cases h;exact ⟨none,rfl,trivial⟩
 | e::es,e'::es',i,r,⟨⟨h1,h2⟩,he⟩,h=>by
  rw [jd] at h
  cases hq:fC P t k e.1 with
  | none=>rw [hq] at h;cases h
  | some b =>
   rw [hq] at h
   have hrun:=Ob (w:=w) hk h1 hq
   cases b with
   | true =>
    have h:cond (kZ P t k es) (some (some (i,e.2.1))) none=some r:=h
    cases hn:kZ P t k es<;>rw [hn] at h<;>cases h
    refine ⟨some (i,e'.val),?_,rfl,h2⟩
    unfold Instr.findAsking
    rw [run_bind_ok hrun];rfl
   | false =>
    obtain ⟨r',a1,a2⟩:=oq hk es es' (i+1) r he h
    refine ⟨r',?_,a2⟩
    unfold Instr.findAsking
    rw [run_bind_ok hrun]
    exact a1
theorem oI {R:Ren} {t:TypeId} {k:V} {k':Value} (hk:VR R k k') (hs:∀ n c,k ≠ .agg n c) {d:TypeDesc} (hd:P.underlying t=some d):∀ (es:List (V×V×Nat)) (es':List MapEntry) (i:Nat) (r:Option (Nat×V)),ER R es es'→gu P t k es i=some r→∃ r',Instr.findNow d k' es' i=some r'∧FR R r r'
 | [],[],i,r,_,h=>by rw [l7] at h;cases h;exact ⟨none,rfl,trivial⟩
 | e::es,e'::es',i,r,⟨⟨h1,h2⟩,he⟩,h=>by
  rw [jd] at h
  cases hq:fC P t k e.1 with
  | none=>rw [hq] at h;cases h
  | some b =>
   rw [hq] at h
   have hsame:Instr.sameNow d k' e'.key=some b:=by
    unfold fC at hq
    split at hq
    ·exact absurd rfl (hs _ _)
    ·rcases o5 hq with ⟨e0,q,m,n,rfl,e2,rfl⟩ | ⟨e0,m,n,rfl,e2,rfl⟩
     ·obtain ⟨q2,hq2⟩:=yl e0
      rw [hd] at hq2;cases hq2
      rw [e2] at h1
      cases hk
      generalize e'.key=z at h1
      cases h1
      show (if q=q then some (m==n) else none)=_
      rw [if_pos rfl]
      by_cases e:m=n<;>simp [e]
     ·have hq2:=rM e0
      rw [hd] at hq2;cases hq2
      rw [e2] at h1
      cases hk
      generalize e'.key=z at h1
      cases h1
      rfl
   unfold Instr.findNow
   rw [hsame]
   cases b with
   | true =>
    have h:cond (kZ P t k es) (some (some (i,e.2.1))) none=some r:=h
    cases hn:kZ P t k es<;>rw [hn] at h<;>cases h
    exact ⟨_,rfl,rfl,h2⟩
   | false=>exact oI hk hs hd es es' (i+1) r he h
theorem run_findKey {R:Ren} {w:World} {t:TypeId} {k:V} {k':Value} (hk:VR R k k') {es:List (V×V×Nat)} {es':List MapEntry} {r:Option (Nat×V)} (he:ER R es es') (hkt:wC P t k=true) (h:gu P t k es 0=some r):∃ r',(Instr.findKey t k' es').run P w = .ok r' w∧FR R r r':=by
 by_cases hs:∀ n c,k ≠ .agg n c
 ·have hd:∃ d,P.underlying t=some d:=by
   unfold wC at hkt
   split at hkt
   ·rename_i hf;obtain ⟨q,hq⟩:=yl hf;exact ⟨_,hq⟩
   ·rename_i hf;exact ⟨_,rM hf⟩
   ·exact absurd rfl (hs _ _)
   ·cases hkt
  obtain ⟨d,hd⟩:=hd
  obtain ⟨r',a1,a2⟩:=oI hk hs hd es es' 0 r he h
  refine ⟨r',?_,a2⟩
  unfold Instr.findKey
  rw [run_bind_ok (aB hd w),a1];rfl
 ·have hs2:∃ n c,k = .agg n c:=by
   cases k<;>first | exact ⟨_,_,rfl⟩ | (exact absurd (fun n c=>by simp) hs)
  obtain ⟨n,c,rfl⟩:=hs2
  have hd:∃ td,P.underlying t=some td∧∀ (x y:Value) (l:List Value),Instr.sameNow td (.agg l.toArray) y=none:=by
   have hkt':keyS P t n=true:=hkt
   unfold keyS at hkt'
   split at hkt'
   ·rename_i fs hu;exact ⟨_,hu,fun _ _ _=>rfl⟩
   ·rename_i len e hu;exact ⟨_,hu,fun _ _ _=>rfl⟩
   ·cases hkt'
  obtain ⟨td,hd,hsn⟩:=hd
  obtain ⟨cs,rfl,hc⟩:=CR.of_agg hk
  unfold Instr.findKey
  rw [run_bind_ok (aB hd w)]
  cases es' with
  | nil =>
   cases es with
   | nil=>rw [l7] at h;cases h;exact ⟨none,rfl,trivial⟩
   | cons _ _=>exact he.elim
  | cons e' es' =>
   have hnow:Instr.findNow td (.agg cs) (e'::es') 0=none:=by
    unfold Instr.findNow
    rw [show cs=cs.toList.toArray by simp,hsn (.bool true) e'.key cs.toList]
   rw [hnow]
   exact oq hk es (e'::es') 0 r he h
theorem MR.find {R:Ren} {w:World} {t:TypeId} {k:V} {k':Value} (hk:VR R k k') {es:List (V×V×Nat)} {es':List MapEntry} {clk:Nat} {r:Option (Nat×V)} (hm:MR R es es' clk) (hkt:wC P t k=true) (h:gu P t k es 0=some r) :
 (r=none∧(Instr.findKey t k' es').run P w = .ok none w) ∨
 ∃ (zp:List EE) (p:EE) (zq zp2 zq2:List EE) (x:Value),r=some (zp.length,p.1.2.1)∧es=(zp++p::zq).map Prod.fst∧es'=(zp2++p::zq2).map Prod.snd∧(zp++zq).Perm (zp2++zq2) ∧
  (∀ q,q∈zp++p::zq→EOk R q)∧fC P t k p.1.1=some true∧(Instr.findKey t k' es').run P w = .ok (some (zp2.length,x)) w∧VR R p.1.2.1 x:=by
 obtain ⟨z,z2,h1,h2,h3,h4,h5⟩:=hm.here
 subst h1
 cases r with
 | none =>
  refine .inl ⟨rfl,?_⟩
  have h6:gu P t k (z2.map Prod.fst) 0=some none:=mQ.2 fun e he=>by
   obtain ⟨p,hp,rfl⟩:=List.mem_map.1 he
   exact mQ.1 h _ (List.mem_map.2 ⟨p,h2.mem_iff.2 hp,rfl⟩)
  obtain ⟨r',a1,a2⟩:=run_findKey (w:=w) hk h5 hkt h6
  cases r' with
  | some _=>exact a2.elim
  | none=>exact a1
 | some jv =>
  obtain ⟨j,v⟩:=jv
  obtain ⟨pre,e,post,e1,e2,e3,e4,e5⟩:=BA h
  obtain ⟨zp,zr,rfl,rfl,e6⟩:=List.map_eq_append_iff.1 e1
  cases zr with
  | nil=>cases e6
  | cons p zq =>
   simp only [List.map_cons,List.cons.injEq] at e6
   obtain ⟨rfl,rfl⟩:=e6
   have hp2:p∈z2:=h2.mem_iff.1 (by simp)
   obtain ⟨zp2,zq2,rfl⟩:=List.append_of_mem hp2
   have hperm:(zp++zq).Perm (zp2++zq2):=by
    have a:=(List.perm_middle (a:=p) (l₁:=zp) (l₂:=zq)).symm.trans (h2.trans (List.perm_middle (a:=p) (l₁:=zp2) (l₂:=zq2)))
    exact a.cons_inv
   have h6:gu P t k ((zp2++p::zq2).map Prod.fst) 0=some (some (0+(zp2.map Prod.fst).length,p.1.2.1)):=by
    rw [List.map_append,List.map_cons]
    refine G8 e4 fun x hx=>?_
    rw [← List.map_append] at hx
    obtain ⟨q,hq,rfl⟩:=List.mem_map.1 hx
    refine e5 _ ?_
    rw [← List.map_append]
    exact List.mem_map.2 ⟨q,hperm.mem_iff.2 hq,rfl⟩
   obtain ⟨r',a1,a2⟩:=run_findKey (w:=w) hk h5 hkt h6
   cases r' with
   | none=>exact a2.elim
   | some jx =>
    obtain ⟨j2,x⟩:=jx
    obtain ⟨rfl,a3⟩:=a2
    refine .inr ⟨zp,p,zq,zp2,zq2,x,by rw [e2,e3];simp,rfl,h3.symm,hperm,h4,e4,by rw [a1];simp,a3⟩
end Go.Ev
/- Looking into a map, and writing one. -/
namespace Go.Ev
open Go
variable {P:Program}
theorem nI {em:Bool} {w:World} {t:TypeId} {d:Nat} {y:Value} (h:fk P t ≠ .no):(Instr.checkKey em (d+1) t y).run P w = .ok () w:=by
 cases hf:fk P t with
 | int=>obtain ⟨q,hq⟩:=yl hf;unfold Instr.checkKey;rw [run_bind_ok (aB hq w)];rfl
 | bool=>have hq:=rM hf;unfold Instr.checkKey;rw [run_bind_ok (aB hq w)];rfl
 | no=>exact absurd hf h
theorem EJ {t:TypeId} (h:iJ P t=true):fk P t ≠ .no:=by
 unfold iJ at h
 intro e;rw [e] at h;cases h
theorem Ec {em:Bool} {R:Ren} {w:World} {n:Nat} {c:T V} {cs:Array Value} (hc:CR R n c cs) (d:Nat):∀ (l:List Field) (i:Nat),oV P l i=true→i+l.length≤n →
    (forIn l PUnit.unit fun (f : Field) (_ : PUnit) => (if f.name ≠ "_" then (do Instr.checkKey em (d + 1) f.type (← part f.type cs f.offset); pure (ForInStep.yield PUnit.unit)) else pure (ForInStep.yield PUnit.unit) : Sem (ForInStep PUnit))).run P w = .ok PUnit.unit w := by
  intro l
  induction l with
  | nil=>intro i _ _;rfl
  | cons f l ih =>
    intro i hf hn
    obtain ⟨f1,f2,f3,f4⟩:=vg hf
    simp only [List.length_cons] at hn
    obtain ⟨x,y,a1,a2,a3,a4⟩:=hc.2 i (by omega)
    rw [List.forIn_cons]
    rw [if_pos f2,f3]
    rw [run_bind_ok (show (do Instr.checkKey em (d+1) f.type (← part f.type cs i);pure (ForInStep.yield PUnit.unit):Sem (ForInStep PUnit)).run P w = .ok (ForInStep.yield PUnit.unit) w by
      rw [run_bind_ok (iE f1 a3 w),run_bind_ok (nI (EJ f1))];rfl)]
    exact ih (i+1) f4 (by omega)
def CkP (P:Program) (em:Bool) (w:World) (dd m:Nat):Prop:=∀ (t:TypeId) (s:Nat) (xs:Array Value) (o:Nat),mg P m t=true→o+P.cellsOf t≤s→xs.size=s→∃ x',(part t xs o).run P w = .ok x' w∧(Instr.checkKey em (dd+m) t x').run P w = .ok () w
theorem UD {em:Bool} {w:World} {dd m:Nat} (H:CkP P em w dd m) {s:Nat} {xs:Array Value} (hx:xs.size=s):∀ (l:List Field) (i n:Nat),wu (mg P m) P l i=some n→n≤s →
    (forIn l PUnit.unit fun (f : Field) (_ : PUnit) => (if f.name ≠ "_" then (do Instr.checkKey em (dd + m) f.type (← part f.type xs f.offset); pure (ForInStep.yield PUnit.unit)) else pure (ForInStep.yield PUnit.unit) : Sem (ForInStep PUnit))).run P w = .ok PUnit.unit w := by
  intro l
  induction l with
  | nil=>intro i n _ _;rfl
  | cons f l ih =>
    intro i n hl hn
    obtain ⟨f1,f2,f3,f4⟩:=qf hl
    have hle:=CJ f4
    obtain ⟨x',e1,e2⟩:=H f.type s xs f.offset f3 (by omega) hx
    rw [List.forIn_cons,if_pos f1]
    rw [run_bind_ok (show (do Instr.checkKey em (dd+m) f.type (← part f.type xs f.offset);pure (ForInStep.yield PUnit.unit):Sem (ForInStep PUnit)).run P w = .ok (ForInStep.yield PUnit.unit) w by
      rw [run_bind_ok e1,run_bind_ok e2];rfl)]
    exact ih _ n f4 hn
theorem Ti {em:Bool} {w:World} {dd m:Nat} (H:CkP P em w dd m) {s:Nat} {xs:Array Value} (hx:xs.size=s) {e:TypeId} {i:TypeInfo} (hi:P.info? e=some i) (he:mg P m e=true):∀ (k j:Nat),(j+k)*P.cellsOf e≤s →
 (forIn (List.range' j k) PUnit.unit fun (a:Nat) (_:PUnit)=>(do Instr.checkKey em (dd+m) e (← part e xs (a*(← sizeOf e)));pure (ForInStep.yield PUnit.unit):Sem (ForInStep PUnit))).run P w = .ok PUnit.unit w:=by
 intro k
 induction k with
 | zero=>intro j _;rfl
 | succ k ih =>
  intro j hn
  have hle:j*P.cellsOf e+P.cellsOf e≤s:=by
   have:(j+1)*P.cellsOf e≤(j+(k+1))*P.cellsOf e:=Nat.mul_le_mul_right _ (by omega)
   rw [Nat.succ_mul] at this;omega
  obtain ⟨x',e1,e2⟩:=H e s xs (j*P.cellsOf e) he hle hx
  rw [List.range'_succ,List.forIn_cons]
  rw [run_bind_ok (show (do Instr.checkKey em (dd+m) e (← part e xs (j*(← sizeOf e)));pure (ForInStep.yield PUnit.unit):Sem (ForInStep PUnit)).run P w = .ok (ForInStep.yield PUnit.unit) w by
   rw [run_bind_ok (run_sizeOf w hi),run_bind_ok e1,run_bind_ok e2];rfl)]
  exact ih (j+1) (by rw [show j+1+k=j+(k+1) by omega];exact hn)
theorem uJ {em:Bool} {w:World} {dd m:Nat} (H:CkP P em w dd m) {t:TypeId} {xs:Array Value} (hl:mg P (m+1) t=true) (ha:iJ P t=false) (hx:xs.size=P.cellsOf t):(Instr.checkKey em (dd+(m+1)) t (.agg xs)).run P w = .ok () w:=by
 rcases kT hl with ⟨q,_⟩ | ⟨fs,n,hu,hs,hf,hn,_⟩ | ⟨len,e,i,hu,h1,h2,hi,_⟩
 ·rw [ha] at q;cases q
 ·show (Instr.checkKey em ((dd+m)+1) t (.agg xs)).run P w=_
  unfold Instr.checkKey
  rw [run_bind_ok (aB hu w)]
  have:=UD H hx fs.toList 0 n hf (by omega)
  simp only
  rw [← Array.forIn_toList]
  first
   | exact this
   | (rw [run_bind_ok this];rfl)
   | (simp only [bind_pure_comp] at this ⊢;exact this)
 ·show (Instr.checkKey em ((dd+m)+1) t (.agg xs)).run P w=_
  unfold Instr.checkKey
  rw [run_bind_ok (aB hu w)]
  have:=Ti H hx hi h1 len 0 (by rw [Nat.zero_add,h2];exact Nat.le_refl _)
  simp only [Std.Legacy.Range.forIn_eq_forIn_range',Std.Legacy.Range.size,Nat.sub_zero,Nat.add_one_sub_one,Nat.div_one]
  first
   | exact this
   | (rw [run_bind_ok this];rfl)
   | (simp only [bind_pure_comp] at this ⊢;exact this)
theorem SX {em:Bool} {w:World} {dd:Nat}:∀ m,CkP P em w dd m:=by
 intro m
 induction m with
 | zero=>intro t s xs o hl;cases hl
 | succ m ih =>
  intro t s xs o hl hs hx
  have hsz:(xs.extract o (o+P.cellsOf t)).size=P.cellsOf t:=by simp;omega
  rcases kT hl with ⟨hf,_⟩ | ⟨fs,n,hu,_⟩ | ⟨len,e,i,hu,_⟩
  ·have hc:=(gY hf).2.1
   have hlt:o<xs.size:=by omega
   exact ⟨xs[o],iE hf (Array.getElem?_eq_getElem hlt) w,nI (d:=dd+m) (EJ hf)⟩
  ·exact ⟨_,kz hu rfl xs o w,uJ ih hl (jZ hu rfl) hsz⟩
  ·exact ⟨_,kz hu rfl xs o w,uJ ih hl (jZ hu rfl) hsz⟩
theorem yg {em:Bool} {R:Ren} {w:World} {t:TypeId} {n:Nat} {c:T V} {k':Value} (hk:VR R (.agg n c) k') {td:TypeDesc} (hu:P.underlying t=some td) (ha:FI td=true) (h:iM P t n=true):(Instr.checkKey em 10000 t k').run P w = .ok () w:=by
 obtain ⟨e,hl⟩:=oh h
 subst e
 obtain ⟨cs,rfl,hc⟩:=CR.of_agg hk
 exact uJ (dd:=9996) (SX 3) hl (jZ hu ha) hc.1
theorem Uf {a b:Bool} (h:cond a true b=true):a=true∨b=true:=by cases a with
 | true=>exact .inl rfl
 | false=>exact .inr h
theorem lK {em:Bool} {R:Ren} {w:World} {t:TypeId} {k:V} {k':Value} (hk:VR R k k') (h:wC P t k=true):(Instr.checkKey em 10000 t k').run P w = .ok () w:=by
 unfold wC at h
 split at h
 ·rename_i hf;exact nI (d:=9999) (by rw [hf];simp)
 ·rename_i hf;exact nI (d:=9999) (by rw [hf];simp)
 ·rename_i n c fkk hf
  unfold keyS at h
  split at h
  ·rename_i fs hu
   rcases Uf h with hfl | h
   case inr=>exact yg hk hu rfl h
   obtain ⟨h1,h2,h3⟩:=qF hfl
   obtain ⟨cs,rfl,hc⟩:=CR.of_agg hk
   show (Instr.checkKey em (9998+1+1) t (.agg cs)).run P w=_
   unfold Instr.checkKey
   rw [run_bind_ok (aB hu w)]
   have:=Ec (em:=em) (w:=w) hc 9998 fs.toList 0 h2 (by simpa using Nat.le_of_eq h1)
   simp only
   rw [← Array.forIn_toList]
   first
    | exact this
    | (rw [run_bind_ok this];rfl)
    | (simp only [bind_pure_comp] at this ⊢;exact this)
  ·rename_i len e hu;exact yg hk hu rfl h
  ·cases h
 ·cases h
theorem qM {r:Nat} {es:Array MapEntry} {clk:Nat} {w:World} (h:w.heap[r]?=some (.map es clk)):(getObj r).run P w = .ok (.map es clk) w:=by simp [getObj,Sem.run,h]
theorem J5 {R:Ren} {v:V} {x:Value} (h:VR R v x) (ok b:Bool):VR R (okV ok v b) (if ok=true then .tuple #[x,.bool b] else x):=by
 cases ok with
 | false=>exact h
 | true =>
  refine .tup rfl (fun i h1 h2=>?_)
  have:i<2:=by simpa using h1
  rcases i with _ | _ | i
  ·exact h
  ·exact .bool b
  ·omega
theorem vz {R:Ren} {S:Nat→Prop} {w:World} {t:TypeId} {x i v:V} {x' i':Value} {ok:Bool} {H H':EH} (hr:Rel R S H w) (hx:VR R x x') (hi:VR R i i') (h:dF P t x i ok H=some (v,H')) (hS:∀ g,g∈dM H x→S g) :
 H'=H∧PR P R w (Instr.lookup t x' i' ok) v:=by
 unfold dF at h
 split at h
 ·rename_i key elem b hu
  split at h
  ·rename_i es clk z ho hz
   cases hk:wC P key i with
   | false=>rw [hk] at h;cases h
   | true =>
    rw [hk] at h
    have h:mX z ok H (gu P key i es 0)=some (v,H'):=h
    cases hx with
    | map hm =>
     rename_i r
     obtain ⟨_,es',clk',h1,h2⟩:=hr.obj b _ r 0 ho hm
     obtain ⟨_,h3⟩:=h2 (hS _ (by show b∈dM H (.map b);simp [dM]))
     have hrun:∀ (q:Option (Nat×Value)),(Instr.findKey key i' es'.toList).run P w = .ok q w→(Instr.lookup t (.map (some r)) i' ok).run P w=((match q with | some (_,v)=>pure (v,true) | none=>do pure (← zeroValue elem,false):Sem (Value×Bool)) >>= fun p=>pure (if ok then .tuple #[p.1,.bool p.2] else p.1)).run P w:=by
      intro q hq
      unfold Instr.lookup
      rw [run_bind_ok (aB hu w)]
      simp only
      rw [run_bind_ok (qM h1)]
      simp only
      rw [run_bind_ok (show (pure es':Sem (Array MapEntry)).run P w = .ok es' w from rfl)]
      rw [run_bind_ok (lK hi hk),run_bind_ok hq]
      cases q with
      | none=>simp only [bind_assoc]
      | some p=>rfl
     cases hf:gu P key i es 0 with
     | none=>rw [hf] at h;cases h
     | some fr =>
      rw [hf] at h
      rcases h3.find (w:=w) hi hk hf with ⟨rfl,a1⟩ | ⟨zp,p,zq,zp2,zq2,x,rfl,_,_,_,_,_,a1,a2⟩
      ·cases h
       obtain ⟨z',e1,e2⟩:=ji hz w
       refine ⟨rfl,_,?_,J5 (e2 R) ok false⟩
       rw [hrun _ a1]
       simp only
       rw [run_bind_ok (show (do pure (← zeroValue elem,false):Sem (Value×Bool)).run P w = .ok (z',false) w by rw [run_bind_ok e1];rfl)]
       rfl
      ·cases h
       refine ⟨rfl,_,?_,J5 a2 ok true⟩
       rw [hrun _ a1]
       rfl
  ·cases h
 ·cases h
theorem tN {R:Ren} {k:FK} {x y:V} {x' y':Value} (hx:VR R x x') (hy:VR R y y') (h:eqK k (some x) (some y)=some true) (n:Nat):Instr.sameBits n x' y'=true:=by
 rcases o5 h with ⟨e,q,a,b,rfl,rfl,e2⟩ | ⟨e,a,b,rfl,rfl,e2⟩
 ·cases hx;cases hy
  have:a=b:=of_decide_eq_true e2.symm
  subst this
  cases n<;>simp [Instr.sameBits]
 ·cases hx;cases hy
  have:a=b:=by simpa using e2.symm
  subst this
  cases n<;>simp [Instr.sameBits]
theorem O7 {c d:T V}:∀ (l:List Field) (i:Nat),yN P l c d i=some true→∀ j,j<l.length→∃ k,eqK k (c.get (i+j)) (d.get (i+j))=some true:=by
 intro l
 induction l with
 | nil=>intro i _ j hj;simp at hj
 | cons f l ih =>
  intro i h j hj
  have h':(match eqK (fk P f.type) (c.get i) (d.get i) with | some true=>yN P l c d (i+1) | r=>r)=some true:=h
  cases hk:eqK (fk P f.type) (c.get i) (d.get i) with
  | none=>rw [hk] at h';cases h'
  | some b =>
   rw [hk] at h'
   cases b with
   | false=>cases h'
   | true =>
    cases j with
    | zero=>exact ⟨_,hk⟩
    | succ j =>
     obtain ⟨k,e⟩:=ih (i+1) h' j (by simpa using hj)
     exact ⟨k,by rw [show i+(j+1)=i+1+j by omega];exact e⟩
theorem QG {k:FK} {c d:T V}:∀ (n i:Nat),CB k c d n i=some true→∀ j,j<n→eqK k (c.get (i+j)) (d.get (i+j))=some true:=by
 intro n
 induction n with
 | zero=>intro i _ j hj;omega
 | succ n ih =>
  intro i h j hj
  have h':(match eqK k (c.get i) (d.get i) with | some true=>CB k c d n (i+1) | r=>r)=some true:=h
  cases hk:eqK k (c.get i) (d.get i) with
  | none=>rw [hk] at h';cases h'
  | some b =>
   rw [hk] at h'
   cases b with
   | false=>cases h'
   | true =>
    cases j with
    | zero=>exact hk
    | succ j=>rw [show i+(j+1)=i+1+j by omega];exact ih (i+1) h' j (by omega)
theorem CW {R:Ren} {t:TypeId} {k k1:V} {k' k1':Value} (hk:VR R k k') (hk1:VR R k1 k1') (hkt:wC P t k=true) (h:fC P t k k1=some true):Instr.sameBits 10000 k1' k'=true:=by
 unfold fC at h
 split at h
 ·rename_i n c n' d
  rw [aH] at h
  split at h
  ·rename_i e
   subst e
   obtain ⟨cs,rfl,hc⟩:=CR.of_agg hk
   obtain ⟨ds,rfl,hd⟩:=CR.of_agg hk1
   rw [Bz] at h
   have hkt':keyS P t n=true:=hkt
   have hcov:∀ j,j<n→∃ k,eqK k (c.get (0+j)) (d.get (0+j))=some true:=by
    have deep:cond (iM P t n) (vP P c d 4 t 0) none=some true→∀ j,j<n→∃ k,eqK k (c.get (0+j)) (d.get (0+j))=some true:=fun h=>by
     cases hk:iM P t n with
     | false=>rw [hk] at h;cases h
     | true =>
      rw [hk] at h
      obtain ⟨e,hl⟩:=oh hk
      intro j hj
      exact UF 4 t 0 hl h j (by omega)
    unfold keyS at hkt'
    split at hkt'
    ·rename_i fs hu
     unfold jq at h
     rw [hu] at h
     cases hfl:qA P t fs n with
     | false=>simp only [hfl] at h;exact deep h
     | true =>
      simp only [hfl] at h
      have h:yN P fs.toList c d 0=some true:=h
      have hall:=O7 fs.toList 0 h
      obtain ⟨h1,_,_⟩:=qF hfl
      exact fun j hj=>hall j (by simpa [h1] using hj)
    ·rename_i len e hu
     unfold jq at h
     rw [hu] at h
     cases hfl:Bg P e len n with
     | false=>simp only [hfl] at h;exact deep h
     | true =>
      simp only [hfl] at h
      have h:CB (fk P e) c d n 0=some true:=h
      exact fun j hj=>⟨_,QG n 0 h j hj⟩
    ·cases hkt'
   ·show Instr.sameBits (9999+1) (.agg ds) (.agg cs)=true
    unfold Instr.sameBits
    simp only [Bool.and_eq_true,beq_iff_eq,List.all_eq_true]
    refine ⟨by rw [hc.1,hd.1],fun p hp=>?_⟩
    obtain ⟨j,hj,rfl⟩:=List.getElem_of_mem hp
    simp only [List.length_zip,Array.length_toList,hc.1,hd.1,Nat.min_self] at hj
    obtain ⟨kk,e⟩:=hcov j hj
    obtain ⟨x,y,a1,a2,a3,a4⟩:=hc.2 j hj
    obtain ⟨x2,y2,b1,b2,b3,b4⟩:=hd.2 j hj
    rw [Nat.zero_add,a1,b1] at e
    have e':eqK kk (some x2) (some x)=some true:=by
     rcases o5 e with ⟨rfl,q,a,b,rfl,rfl,e2⟩ | ⟨rfl,a,b,rfl,rfl,e2⟩
     ·have:a=b:=of_decide_eq_true e2.symm
      subst this;exact e
     ·have:a=b:=by simpa using e2.symm
      subst this;exact e
    have q1:cs.toList[j]?=some y:=by simpa using a3
    have q2:ds.toList[j]?=some y2:=by simpa using b3
    have hcs:j<cs.size:=by rw [hc.1];exact hj
    have hds:j<ds.size:=by rw [hd.1];exact hj
    have r1:cs.toList[j]'(by simpa using hcs)=y:=by
     have:=List.getElem?_eq_getElem (l:=cs.toList) (i:=j) (by simpa using hcs)
     rw [this] at q1;exact Option.some.inj q1
    have r2:ds.toList[j]'(by simpa using hds)=y2:=by
     have:=List.getElem?_eq_getElem (l:=ds.toList) (i:=j) (by simpa using hds)
     rw [this] at q2;exact Option.some.inj q2
    rw [List.getElem_zip,r1,r2]
    exact tN b4 a4 e' 9999
  ·cases h
 ·have h2:eqK (fk P t) (some k1) (some k)=some true:=by
   rcases o5 h with ⟨e0,q,a,b,e1,e3,e2⟩ | ⟨e0,a,b,e1,e3,e2⟩
   ·have:a=b:=of_decide_eq_true e2.symm
    subst this;rw [e1,e3] at h;rw [e1,e3];exact h
   ·have:a=b:=by simpa using e2.symm
    subst this;rw [e1,e3] at h;rw [e1,e3];exact h
  exact tN hk1 hk h2 10000
end Go.Ev
/- Writing a map. -/
namespace Go.Ev
open Go
variable {P:Program}
theorem MW (k v:V) (e:V×V×Nat) (es:List (V×V×Nat)) (i:Nat):JJ k v (e::es) (i+1)=e::JJ k v es i:=rfl
theorem JQ (k v:V) (e:V×V×Nat) (m:List (V×V×Nat)):∀ l:List (V×V×Nat),JJ k v (l++e::m) l.length=l++(k,v,e.2.2)::m
 | []=>rfl
 | x::l=>by rw [List.cons_append,List.length_cons,MW,JQ k v e m l];rfl
theorem BD {α:Type} (f:α→α) (e:α) (m:List α):∀ l:List α,(l++e::m).modify l.length f=l++f e::m
 | []=>rfl
 | x::l=>by rw [List.cons_append,List.length_cons,List.modify_succ_cons,BD f e m l];rfl
theorem MR.snoc {R:Ren} {k v:V} {k' v':Value} (hk:VR R k k') (hv:VR R v v') (b:Nat) {es:List (V×V×Nat)} {es':List MapEntry} {clk:Nat} (h:MR R es es' clk):MR R (Vg es (k,v,b)) (es'++[{ key:=k',val:=v',born:=clk }]) (clk+1):=by
 obtain ⟨⟨z,h1,h2,h3⟩,h4,h5⟩:=h
 refine ⟨⟨((k,v,b),{ key:=k',val:=v',born:=clk })::z,by rw [List.map_cons,h1];rfl,by rw [List.map_cons];exact (h2.cons _).trans (List.perm_append_comm (l₁:=[_])),fun p hp=>?_⟩,?_,fun x hx=>?_⟩
 ·rcases List.mem_cons.1 hp with rfl | hp
  ·exact ⟨hk,hv⟩
  ·exact h3 p hp
 ·rw [List.map_append,List.nodup_append]
  refine ⟨h4,by simp,fun a ha c hc e=>?_⟩
  obtain ⟨y,hy,rfl⟩:=List.mem_map.1 ha
  have:=h5 y hy
  have hc:c=clk:=by simpa using hc
  omega
 ·rcases List.mem_append.1 hx with hx | hx
  ·have:=h5 x hx;omega
  ·rw [List.mem_singleton.1 hx];exact Nat.lt_succ_self _
theorem MR.put {R:Ren} {k v:V} {k' v':Value} (hk:VR R k k') (hv:VR R v v') {zp zq zp2 zq2:List EE} {p:EE} {clk:Nat} (h:MR R ((zp++p::zq).map Prod.fst) ((zp2++p::zq2).map Prod.snd) clk) (hp:(zp++zq).Perm (zp2++zq2)) (ho:∀ q,q∈zp++p::zq→EOk R q) :
 MR R (JJ k v ((zp++p::zq).map Prod.fst) zp.length) (((zp2++p::zq2).map Prod.snd).modify zp2.length fun e=>{ e with key:=k',val:=v' }) clk:=by
 obtain ⟨_,h4,h5⟩:=h
 have e1:JJ k v ((zp++p::zq).map Prod.fst) zp.length=zp.map Prod.fst++(k,v,p.1.2.2)::zq.map Prod.fst:=by
  have:=JQ k v p.1 (zq.map Prod.fst) (zp.map Prod.fst)
  rw [List.length_map] at this
  rw [List.map_append,List.map_cons];exact this
 have e2:((zp2++p::zq2).map Prod.snd).modify zp2.length (fun e=>{ e with key:=k',val:=v' })=zp2.map Prod.snd++{ p.2 with key:=k',val:=v' }::zq2.map Prod.snd:=by
  have:=BD (fun e:MapEntry=>{ e with key:=k',val:=v' }) p.2 (zq2.map Prod.snd) (zp2.map Prod.snd)
  rw [List.length_map] at this
  rw [List.map_append,List.map_cons];exact this
 rw [e1,e2]
 refine ⟨⟨zp++((k,v,p.1.2.2),{ p.2 with key:=k',val:=v' })::zq,by simp,?_,fun q hq=>?_⟩,?_,fun x hx=>?_⟩
 ·rw [List.map_append,List.map_cons]
  refine List.perm_middle.trans (.trans ?_ List.perm_middle.symm)
  rw [← List.map_append,← List.map_append]
  exact (hp.map Prod.snd).cons _
 ·rcases List.mem_append.1 hq with hq | hq
  ·exact ho q (by simp [hq])
  ·rcases List.mem_cons.1 hq with rfl | hq
   ·exact ⟨hk,hv⟩
   ·exact ho q (by simp [hq])
 ·simpa using h4
 ·have hall:=h5
  rcases List.mem_append.1 hx with hx | hx
  ·exact hall x (by rw [List.map_append];exact List.mem_append.2 (.inl hx))
  ·rcases List.mem_cons.1 hx with rfl | hx
   ·exact hall p.2 (by simp)
   ·exact hall x (by rw [List.map_append,List.map_cons];exact List.mem_append.2 (.inr (List.mem_cons.2 (.inr hx))))
theorem xU {r:Nat} {es:Array MapEntry} {clk:Nat} {w:World} (h:w.heap[r]?=some (.map es clk)) (o:Obj):∃ w',(setObj r o).run P w = .ok () w'∧WU w r o w':=by
 refine ⟨{ w with heap:=w.heap.setIfInBounds r o },by simp [setObj,Sem.run,h],⟨by simp,?_,fun r' e=>?_,rfl,rfl,rfl⟩⟩
 ·have:=(Array.getElem?_eq_some_iff.1 h).1
  simp [this]
 ·simp only;rw [Array.getElem?_setIfInBounds_ne (fun q=>e q.symm)]
theorem ou {R:Ren} {S:Nat→Prop} {H H':EH} {w:World} (hr:Rel R S H w) (hw:WF H) {t:TypeId} {m k x v:V} {m' k' x':Value} (hm:VR R m m') (hk:VR R k k') (hx:VR R x x') (h:fQ P t m k x H=some (v,H'))
 (hS:∀ g,g∈dM H m→S g):∃ w',(Instr.mapUpdate t m' k' x').run P w = .ok () w'∧v = .bad∧Sim R R S H H' (fun g=>g∈dM H m) w w':=by
 unfold fQ at h
 split at h
 ·rename_i key elem b hu
  split at h
  ·rename_i es clk ho'
   cases hkt:wC P key k with
   | false=>rw [hkt] at h;cases h
   | true =>
    rw [hkt] at h
    have h:OT b k x es clk H (gu P key k es 0)=some (v,H'):=(CU _ _ _ _ _ _ _).symm.trans h
    cases hm with
    | map hb =>
     rename_i r
     obtain ⟨_,es',clk',h1,h2⟩:=hr.obj b _ r 0 ho' hb
     obtain ⟨hclk,h3⟩:=h2 (hS _ (by show b∈dM H (.map b);simp [dM]))
     subst hclk
     have hW:(fun g=>g∈dM H (.map b))=(fun g=>g=b):=by funext g;simp [dM]
     rw [hW]
     cases hf:gu P key k es 0 with
     | none=>rw [hf] at h;cases h
     | some fr =>
      rw [hf] at h
      rcases h3.find (w:=w) hk hkt hf with ⟨rfl,a1⟩ | ⟨zp,p,zq,zp2,zq2,x0,rfl,e1,e2,hp,ho,g2,a1,_⟩
      ·cases h
       obtain ⟨w',s1,s2⟩:=xU (P:=P) h1 (.map (es'.push { key:=k',val:=x',born:=clk' }) (clk'+1))
       refine ⟨w',?_,rfl,wZ hr hw ho' hb (by simp [bn]) rfl _ ⟨rfl,_,_,s2.neu,fun _=>⟨rfl,?_⟩⟩ s2⟩
       ·unfold Instr.mapUpdate
        rw [run_bind_ok (aB hu w)]
        simp only
        rw [run_bind_ok (qM h1)]
        simp only
        rw [run_bind_ok (lK hk hkt),run_bind_ok a1]
        exact s1
       ·rw [Array.toList_push];exact h3.snoc hk hx clk'
      ·cases h
       obtain ⟨w',s1,s2⟩:=xU (P:=P) h1 (.map (es'.modify zp2.length fun e=>{ e with key:=k',val:=x' }) clk')
       refine ⟨w',?_,rfl,wZ hr hw ho' hb (by simp [bn]) rfl _ ⟨rfl,_,_,s2.neu,fun _=>⟨rfl,?_⟩⟩ s2⟩
       ·have hold:((es'[zp2.length]?).map (·.key)).getD k'=p.2.key:=by
         have:es'.toList[zp2.length]?=some p.2:=by rw [e2];simp
         have:es'[zp2.length]?=some p.2:=by simpa using this
         rw [this];rfl
        have hst:(Instr.keyThatStays (((es'[zp2.length]?).map (·.key)).getD k') k').run P w = .ok k' w:=by
         rw [hold]
         unfold Instr.keyThatStays
         rw [if_pos (CW hk (ho p (by simp)).1 hkt g2)];rfl
        unfold Instr.mapUpdate
        rw [run_bind_ok (aB hu w)]
        simp only
        rw [run_bind_ok (qM h1)]
        simp only
        rw [run_bind_ok (lK hk hkt),run_bind_ok a1]
        simp only
        rw [run_bind_ok hst]
        exact s1
       ·rw [Array.toList_modify]
        rw [e2,e1] at h3 ⊢
        exact h3.put hk hx hp ho
  ·cases h
 ·cases h
theorem Hw {R:Ren} {S:Nat→Prop} {H H':EH} {w:World} (hr:Rel R S H w) (hw:WF H) (hf:Free R H H') {t:TypeId} {x v:V} {x':Value} (hx:VR R x x') (h:sU P t x H=some (v,H')) (hS:∀ g,g∈dM H x→S g) :
 Good P R S H w (Instr.range t x') v H' (fun _=>False):=by
 unfold sU at h
 split at h
 ·rename_i key elem m hu
  split at h
  ·rename_i es clk ho
   rw [dA] at h
   cases h
   cases hx with
   | map hm =>
    rename_i r
    obtain ⟨_,es',clk',h1,h2⟩:=hr.obj m _ r 0 ho hm
    obtain ⟨rfl,_⟩:=h2 (hS _ (by show m∈dM H (.map m);simp [dM]))
    obtain ⟨R',g1,g2,g3⟩:=um (w':=w.alloc (.mapIter (some r) clk' #[] clk')) hr hw (hf _ (Nat.le_refl _) (Nat.lt_succ_self _)).1 (.iter (some (m,clk'))) rfl (.mapIter (some r) clk' #[] clk') 0
     (fun R' hle hb hz=>⟨rfl,some r,clk',#[],clk',(WA.push w _).neu,fun _=>⟨rfl,rfl,rfl,r,rfl,hle.bm _ _ hm⟩⟩) (WA.push w _)
    exact ⟨_,_,R',run_range_map w t key elem r es' clk' hu h1,.ptr g2 rfl,g1⟩
  ·cases h
 ·cases h
end Go.Ev
/- clear; an entry that is read and written in one statement. -/
namespace Go.Ev
open Go
variable {P:Program}
theorem nN {R:Ren} {S:Nat→Prop} {H H1:EH} {w:World} (hr:Rel R S H w) (hw:WF H) {b off n r d o:Nat} {c:T V} (hm:R.bm b=some (r,d)) (ho:o+d=off) {ys:Array Value} (hc:CR R n c ys) (hst:H.storeN b off n c=some H1) (hs:∀ g,g∈mf H b→S g) :
 ∃ w',(storeCells ⟨r,o,none⟩ ys.toList).run P w = .ok () w'∧Sim R R S H H1 (fun g=>g∈mf H b) w w':=by
 obtain ⟨z1,z2⟩:=hc
 unfold EH.storeN at hst
 cases hb:H.block b with
 | no=>rw [hb] at hst;cases hst
 | mk c0 lo sz g =>
  rw [hb] at hst
  simp only [bg] at hst
  split at hst
  ·rename_i q1
   split at hst
   ·rename_i q2
    have q2':off+n≤sz:=q2
    obtain ⟨c',hp,rfl⟩:=tu hst
    obtain ⟨p1,p2⟩:=Gj hp q2'
    have hgm:mf H b=[g]:=by unfold mf;rw [(aV hb).1]
    rw [hgm] at hs ⊢
    obtain ⟨cs,t',fz,a1,a2,a3,a4⟩:=hr.row hb hm (hs g (by simp))
    by_cases hn0:n=0
    ·subst hn0
     have e0:ys.toList=[]:=by
      apply List.eq_nil_of_length_eq_zero;simpa using z1
     refine ⟨w,by rw [e0];rfl,?_⟩
     have:=pF (w':=w) hr hw (aV hb).1 (aV hb).2 hm (c':=c') (cs':=cs) (t:=t') (fz:=fz) a2 a3 (fun i hi hj=>by
      obtain ⟨k0,xx,yy,k1,k2,k3,k4⟩:=a4 i hi hj
      exact ⟨k0,xx,yy,(p2 i hj (by omega)).trans k1,k2,k3,k4⟩) ⟨rfl,a1,fun _ _=>rfl,rfl,rfl,rfl⟩
     simpa using this
    ·have hin:o+n≤cs.size:=by
      obtain ⟨k0,xx,yy,k1,k2,k3,k4⟩:=a4 (off+(n-1)) (by omega) (by omega)
      have:=(Array.getElem?_eq_some_iff.1 k3).1
      omega
     have hlen:ys.toList.length=n:=by simpa using z1
     obtain ⟨w',cs',e1,e2,e3,e4⟩:=qN (P:=P) r t' fz a3 ys.toList o 0 cs w a1 (by omega) (fun v hv=>by
      obtain ⟨i,hi,rfl⟩:=List.getElem_of_mem hv
      obtain ⟨x1,y1,g1,g2,g3,g4⟩:=z2 i (by omega)
      have g5:ys[i]?=some (ys.toList[i]):=by simp [show i<ys.size by simpa using hi]
      rw [g5] at g3;cases g3;exact g4.oneCell g2)
     refine ⟨w',e1,?_⟩
     have:=pF hr hw (aV hb).1 (aV hb).2 hm (c':=c') (cs':=cs') (t:=t') (fz:=fz) (by rw [e3];exact a2) a3 (fun i hi hj=>by
      obtain ⟨k0,xx,yy,k1,k2,k3,k4⟩:=a4 i hi hj
      refine ⟨k0,?_⟩
      rw [e4]
      by_cases hin2:off≤i∧i<off+n
      ·rw [if_pos (by omega)]
       obtain ⟨x1,y1,g1,g2,g3,g4⟩:=z2 (i-off) (by omega)
       have g5:=p1 (i-off) (by omega) x1 g1
       rw [show off+(i-off)=i by omega] at g5
       refine ⟨x1,y1,g5,g2,?_,g4⟩
       rw [show i-d-(o+0)=i-off by omega]
       simpa using g3
      ·rw [if_neg (by omega)]
       exact ⟨xx,yy,(p2 i hj (by omega)).trans k1,k2,k3,k4⟩) e2
     simpa using this
   ·cases hst
  ·cases hst
theorem Dj (R:Ren):VR R (.tup []) (.tuple #[]) := .tup rfl fun i h=>by simp at h
theorem IA {R:Ren} {S:Nat→Prop} {H H':EH} {w:World} (hr:Rel R S H w) (hw:WF H) {t:TypeId} {x v:V} {x':Value} (hx:VR R x x') (h:rF P t x H=some (v,H')) (hS:∀ g,g∈dM H x→S g) {ts:Array TypeId} {args:Array Value} (ht:ts[0]?=some t) (ha:args[0]?=some x') (ty:TypeId) :
 ∃ W:Nat→Prop,(∀ g,W g→g∈dM H x)∧Good P R S H w (Builtin.clear_ ts ty args) v H' W:=by
 unfold rF at h
 split at h
 ·rename_i elem b off len e hu
  split at h
  ·rename_i size z hsz hz
   rw [aH] at h
   by_cases he:size=e
   ·rw [if_pos he,aH] at h
    subst he
    obtain ⟨z',e1,e2⟩:=ji hz w
    by_cases hl:len=0
    ·rw [if_pos hl] at h
     cases h
     subst hl
     cases hx with
     | slice p1 p2 p3 p4 =>
      refine ⟨_,fun _ h=>h.elim,_,w,R,?_,Dj R,.refl hw hr⟩
      unfold Builtin.clear_
      rw [ht,ha]
      simp only
      rw [run_bind_ok (aB hu w)]
      rfl
    ·rw [if_neg hl] at h
     obtain ⟨n,c,c',q1,q2,q3⟩:=qc h
     rw [aH] at q3
     by_cases hn:n=size
     ·rw [if_pos hn] at q3
      subst hn
      cases hx with
      | slice p1 p2 p3 p4 =>
       rename_i r d o cap
       unfold Td at q3
       split at q3
       ·rename_i H1 hst
        cases q3
        have hzr:=sH (e2 R) q1 q2
        have hzc:=(CR.of_cells (e2 R) q1).1
        have hcap:cap≠0:=by omega
        obtain ⟨w',g1,g2⟩:=nN (P:=P) hr hw p1 (p2 hcap) hzr hst hS
        refine ⟨_,fun _ h=>h,_,w',R,?_,Dj R,g2⟩
        obtain ⟨l,rfl⟩:∃ l,len=l+1:=⟨len-1,by omega⟩
        unfold Builtin.clear_
        rw [ht,ha]
        simp only
        rw [run_bind_ok (aB hu w)]
        simp only
        have hrun:(storeCells ⟨r,o,none⟩ (Builtin.zeroCells z'.cells (l+1)).toList).run P w = .ok () w':=by
         rw [← g1]
         unfold Builtin.zeroCells
         rw [hzc]
        rw [run_bind_ok e1,run_bind_ok hrun]
        rfl
       ·cases q3
     ·rw [if_neg hn] at q3;cases q3
   ·rw [if_neg he] at h;cases h
  ·cases h
 ·rename_i hu
  cases h
  cases hx
  refine ⟨_,fun _ h=>h.elim,_,w,R,?_,Dj R,.refl hw hr⟩
  unfold Builtin.clear_
  rw [ht,ha]
  simp only
  rw [run_bind_ok (aB hu w)]
  rfl
 ·cases h
theorem Mc {R:Ren} {S:Nat→Prop} {H H':EH} {w:World} (hr:Rel R S H w) (hw:WF H) {t:TypeId} {s x v:V} {s' x':Value} (hs:VR R s s') (hx:VR R x x') (h:xA P t s x H=some (v,H')) (hS:∀ g,g∈dM H s∨g∈dM H x→S g) {ts:Array TypeId} {args:Array Value} (ht:ts[0]?=some t) (ha:args[0]?=some s') (hb:args[1]?=some x') (ty:TypeId) :
 ∃ W:Nat→Prop,(∀ g,W g→g∈dM H s)∧Good P R S H w (Builtin.copy_ ts ty args) v H' W:=by
 unfold xA at h
 split at h
 ·rename_i elem hu
  split at h
  ·rename_i e b off len e' hsz
   rw [aH] at h
   by_cases he:e=e'
   ·rw [if_pos he] at h
    subst he
    split at h
    ·rename_i xs hxs
     obtain ⟨r1,r2,cs,r3,r4,r5⟩:=mD (P:=P) hr hx hxs (fun g hg=>hS g (.inr hg))
     rw [bg] at h
     by_cases hl:xs.m≤len
     ·rw [if_pos hl,aH] at h
      have hmin:Nat.min xs.m len=xs.m:=Nat.min_eq_left hl
      by_cases hm:xs.m=0
      ·rw [if_pos hm] at h
       cases h
       cases hs with
       | slice p1 p2 p3 p4 =>
        rename_i r d o cap
        have hc0:cs=#[]:=by
         have:cs.size=0:=by rw [r4,r2,hm];omega
         exact Array.eq_empty_of_size_eq_zero this
        refine ⟨_,fun _ h=>h.elim,_,w,R,?_,.int _ _,.refl hw hr⟩
        unfold Builtin.copy_
        rw [ht,ha,hb]
        simp only
        rw [run_bind_ok (aB hu w)]
        simp only
        rw [run_bind_ok r1,run_bind_ok (bQ hsz w),hmin,run_bind_ok r3,hc0,hm]
        rfl
      ·rw [if_neg hm] at h
       split at h
       ·rename_i c hcp
        unfold cpO at h
        split at h
        ·rename_i H1 hst
         cases h
         cases hs with
         | slice p1 p2 p3 p4 =>
          rename_i r d o cap
          have hcap:cap≠0:=by omega
          have hrow:CR R xs.n c cs:=⟨r4,fun i hi=>by
           obtain ⟨a,q,q1,q2,q3,q4⟩:=r5 i hi
           obtain ⟨a',z1,z2⟩:=(ku xs.c xs.n xs.off 0 _ _ hcp).1 i hi
           rw [q1] at z1
           cases z1
           rw [Nat.zero_add] at z2
           exact ⟨a,q,z2,q2,q3,q4⟩⟩
          obtain ⟨w',g1,g2⟩:=nN (P:=P) hr hw p1 (p2 hcap) hrow hst (fun g hg=>hS g (.inl hg))
          refine ⟨_,fun _ h=>h,_,w',R,?_,.int _ _,g2⟩
          unfold Builtin.copy_
          rw [ht,ha,hb]
          simp only
          rw [run_bind_ok (aB hu w)]
          simp only
          rw [run_bind_ok r1,run_bind_ok (bQ hsz w),hmin,run_bind_ok r3,run_bind_ok g1]
          rfl
        ·cases h
       ·cases h
     ·rw [if_neg hl] at h;cases h
    ·cases h
   ·rw [if_neg he] at h;cases h
  ·cases h
 ·cases h
end Go.Ev
/- An operation that enters no function: the machine's is related to the evaluator's. -/
namespace Go.Ev
open Go
variable {P:Program}
def LightGood (P:Program) (R:Ren) (S:Nat→Prop) (H:EH) (w:World) (s:Sem Next) (v:V) (H':EH) (ws:List Nat):Prop :=
 ∃ (W:Nat→Prop) (n:Next) (w':World) (R':Ren) (x:Value),(∀ g,W g→g∈ws)∧s.run P w = .ok n w'∧(n = .value x∨(n = .skip∧x=undef))∧VR R' v x∧Sim R R' S H H' W w w'
theorem LightGood.of_good {R:Ren} {S:Nat→Prop} {H H':EH} {w:World} {s:Sem Value} {v:V} {W:Nat→Prop} (h:Good P R S H w s v H' W) {ws:List Nat} (hW:∀ g,W g→g∈ws):LightGood P R S H w (do pure (.value (← s))) v H' ws:=by
 obtain ⟨x,w',R',h1,h2,h3⟩:=h
 exact ⟨W,.value x,w',R',x,hW,by rw [run_bind_ok h1];rfl,.inl rfl,h2,h3⟩
theorem LightGood.of_pure {R:Ren} {S:Nat→Prop} {H H':EH} {w:World} (hw:WF H) (hr:Rel R S H w) {s:Sem Value} {v:V} (h:H'=H∧PR P R w s v) (ws:List Nat):LightGood P R S H w (do pure (.value (← s))) v H' ws:=by
 obtain ⟨rfl,x,h1,h2⟩:=h
 exact LightGood.of_good (Good.pure hw hr h1 h2) (fun _ h=>h.elim)
theorem LightGood.of_val {R:Ren} {S:Nat→Prop} {H H':EH} {w:World} (hw:WF H) (hr:Rel R S H w) {s:Sem Next} {v:V} {x:Value} (he:H'=H) (h1:s.run P w = .ok (.value x) w) (h2:VR R v x) (ws:List Nat):LightGood P R S H w s v H' ws:=by
 subst he
 exact ⟨_,.value x,w,R,x,fun _ h=>h.elim,h1,.inl rfl,h2,.refl hw hr⟩
theorem LightGood.of_unit {R:Ren} {S:Nat→Prop} {H H':EH} {w w':World} {s:Sem Unit} {v:V} {W:Nat→Prop} (h1:s.run P w = .ok () w') (hv:v = .bad) (h:Sim R R S H H' W w w') {ws:List Nat} (hW:∀ g,W g→g∈ws):LightGood P R S H w (do s;pure .skip) v H' ws:=by
 subst hv
 exact ⟨W,.skip,w',R,undef,hW,by rw [run_bind_ok h1];rfl,.inr ⟨rfl,rfl⟩,.bad _,h⟩
theorem rV {a:EA} {l:List Operand} {s x:V} {r:List V} (h:mapO a l=s::x::r):∃ o1 o2 l',l=o1::o2::l'∧a.eval o1=s∧a.eval o2=x∧mapO a l'=r:=by
 rw [pW] at h
 match l,h with
 | [],h=>cases h
 | [_],h=>cases h
 | o1::o2::l',h=>simp only [List.map_cons,List.cons.injEq] at h;exact ⟨o1,o2,l',rfl,h.1,h.2.1,by rw [pW];exact h.2.2⟩
theorem xm {a:EA} {l:List Operand} {x:V} {r:List V} (h:mapO a l=x::r):∃ o1 l',l=o1::l'∧a.eval o1=x:=by
 rw [pW] at h
 match l,h with
 | [],h=>cases h
 | o1::l',h=>simp only [List.map_cons,List.cons.injEq] at h;exact ⟨o1,l',rfl,h.1⟩
theorem iK {α:Type} {ts:Array α} {t:α} {r:List α} (h:ts.toList=t::r):ts[0]?=some t:=by
 rw [← Array.getElem?_toList,h];rfl
theorem wQ {α:Type} {ts:Array α} {t u:α} {r:List α} (h:ts.toList=t::u::r):ts[1]?=some u:=by
 rw [← Array.getElem?_toList,h];rfl
theorem Pq {R:Ren} {H H':EH} {w:World} {t:TypeId} {x v:V} {x':Value} (hx:VR R x x') (h:KG (MG P t) x H=some (v,H')) {ts:Array TypeId} {ty:TypeId} {args:Array Value} (ht:ts[0]?=some t) (ha:args[0]?=some x') :
 H'=H∧PR P R w (Builtin.cap_ ts ty args) v:=by
 obtain ⟨n1,n2,n3,n4⟩:=uX (P:=P) (t:=t)
 unfold KG MG at h
 split at h
 ·rename_i hk
  obtain ⟨e,hu⟩:=n1 hk
  cases h;cases hx
  refine ⟨rfl,_,?_,.int _ _⟩
  unfold Builtin.cap_
  simp only [ht,ha]
  rw [run_bind_ok (aB hu w)]
  rfl
 ·cases h
theorem zx {R:Ren} {S:Nat→Prop} {H H':EH} {w:World} (hr:Rel R S H w) (hw:WF H) (hf:Free R H H') {b:Builtin} {args:Array Operand} {ts:Array TypeId} {a:EA} {ρ:Operand→Value} (hρ:∀ x,x∈args→VR R (a.eval x) (ρ x)) {v:V} (ty:TypeId) (cs:Array Bool)
 (h:iy P b ts.toList (mapO a args.toList) H=some (v,H')) (hS:∀ g,g∈(fpL a H H' (DU b args.toList)).rd∨g∈(fpL a H H' (DU b args.toList)).wrs→S g) :
 LightGood P R S H w (builtin b ts ty cs (args.map ρ)) v H' (fpL a H H' (DU b args.toList)).wrs:=by
 unfold iy at h
 split at h
 ·rename_i t tr x xr e1 e2
  obtain ⟨o1,l',q1,q2⟩:=xm e2
  have hm:o1∈args:=by rw [← Array.mem_toList_iff,q1];simp
  have hx:=hρ o1 hm
  rw [q2] at hx
  have ha:(args.map ρ)[0]?=some (ρ o1):=by rw [Array.getElem?_map,iK q1];rfl
  rw [q1] at hS ⊢
  exact .of_pure hw hr (SE hr hx h (fun g hg=>hS g (.inl (by show g∈dM H (a.eval o1);rw [q2];exact hg))) (iK e1) ha) _
 ·rename_i st xt tr s x xr e1 e2
  obtain ⟨o1,o2,l',q1,q2,q3,_⟩:=rV e2
  have hx:=hρ o1 (by rw [← Array.mem_toList_iff,q1];simp)
  have hy:=hρ o2 (by rw [← Array.mem_toList_iff,q1];simp)
  rw [q2] at hx
  rw [q3] at hy
  have ha:(args.map ρ)[0]?=some (ρ o1):=by rw [Array.getElem?_map,iK q1];rfl
  have hb:(args.map ρ)[1]?=some (ρ o2):=by rw [Array.getElem?_map,wQ q1];rfl
  rw [q1] at hS ⊢
  unfold uN at h
  cases hit:qJ (P.underlying xt) with
  | true =>
   rw [hit] at h
   exact .of_good (NT (P:=P) hr hw hf (ty:=ty) (iK e1) (wQ e1) ha hb hx hy hit h) (fun g hg=>hg.elim)
  | false =>
   rw [hit] at h
   have h:jH P st xt s x H=some (v,H'):=h
   obtain ⟨W,g1,g2⟩:=Ew (P:=P) hr hw hf (ty:=ty) (iK e1) (wQ e1) ha hb hx hy h (fun g hg=>by
    rcases hg with hg | hg
    ·exact hS g (.inr (by show g∈dM H (a.eval o1);rw [q2];exact hg))
    ·exact hS g (.inl (by show g∈dM H (a.eval o2);rw [q3];exact hg)))
   exact .of_good g2 (fun g hg=>by show g∈dM H (a.eval o1);rw [q2];exact g1 g hg)
 ·rename_i t tr x xr e1 e2
  obtain ⟨o1,l',q1,q2⟩:=xm e2
  have hm:o1∈args:=by rw [← Array.mem_toList_iff,q1];simp
  have hx:=hρ o1 hm
  rw [q2] at hx
  have ha:(args.map ρ)[0]?=some (ρ o1):=by rw [Array.getElem?_map,iK q1];rfl
  rw [q1] at hS ⊢
  exact .of_pure hw hr (Pq hx h (iK e1) ha) _
 ·rename_i x y e2
  obtain ⟨o1,o2,l',q1,q2,q3,q4⟩:=rV e2
  have hx:=hρ o1 (by rw [← Array.mem_toList_iff,q1];simp)
  have hy:=hρ o2 (by rw [← Array.mem_toList_iff,q1];simp)
  rw [q2] at hx
  rw [q3] at hy
  have hn:l'=[]:=by rw [pW] at q4;exact List.map_eq_nil_iff.1 q4
  subst hn
  have ha:args.map ρ=#[ρ o1,ρ o2]:=by
   apply Array.toList_inj.1
   rw [Array.toList_map,q1];rfl
  rw [ha]
  exact .of_pure hw hr (QZ hx hy h ts ty) _
 ·rename_i x y e2
  obtain ⟨o1,o2,l',q1,q2,q3,q4⟩:=rV e2
  have hx:=hρ o1 (by rw [← Array.mem_toList_iff,q1];simp)
  have hy:=hρ o2 (by rw [← Array.mem_toList_iff,q1];simp)
  rw [q2] at hx
  rw [q3] at hy
  have hn:l'=[]:=by rw [pW] at q4;exact List.map_eq_nil_iff.1 q4
  subst hn
  have ha:args.map ρ=#[ρ o1,ρ o2]:=by
   apply Array.toList_inj.1
   rw [Array.toList_map,q1];rfl
  rw [ha]
  exact .of_pure hw hr (PD hx hy h ts ty) _
 ·rename_i t tr x xr e1 e2
  obtain ⟨o1,l',q1,q2⟩:=xm e2
  have hm:o1∈args:=by rw [← Array.mem_toList_iff,q1];simp
  have hx:=hρ o1 hm
  rw [q2] at hx
  have ha:(args.map ρ)[0]?=some (ρ o1):=by rw [Array.getElem?_map,iK q1];rfl
  rw [q1] at hS ⊢
  obtain ⟨W,g1,g2⟩:=IA (P:=P) hr hw hx h (fun g hg=>hS g (.inr (by show g∈dM H (a.eval o1);rw [q2];exact hg))) (iK e1) ha ty
  exact .of_good g2 (fun g hg=>by show g∈dM H (a.eval o1);rw [q2];exact g1 g hg)
 ·rename_i t tr s x xr e1 e2
  obtain ⟨o1,o2,l',q1,q2,q3,_⟩:=rV e2
  have hx:=hρ o1 (by rw [← Array.mem_toList_iff,q1];simp)
  have hy:=hρ o2 (by rw [← Array.mem_toList_iff,q1];simp)
  rw [q2] at hx
  rw [q3] at hy
  have ha:(args.map ρ)[0]?=some (ρ o1):=by rw [Array.getElem?_map,iK q1];rfl
  have hb:(args.map ρ)[1]?=some (ρ o2):=by rw [Array.getElem?_map,wQ q1];rfl
  rw [q1] at hS ⊢
  obtain ⟨W,g1,g2⟩:=Mc (P:=P) hr hw hx hy h (fun g hg=>by
   rcases hg with hg | hg
   ·exact hS g (.inr (by show g∈dM H (a.eval o1);rw [q2];exact hg))
   ·exact hS g (.inl (by show g∈dM H (a.eval o2);rw [q3];exact hg))) (iK e1) ha hb ty
  exact .of_good g2 (fun g hg=>by show g∈dM H (a.eval o1);rw [q2];exact g1 g hg)
 ·cases h
theorem Eh (ρ:Operand→Value) (dst:Option Tmp) (b:Builtin) (args:Array Operand) (ts:Array TypeId) (type:TypeId) (pos:String) (after:Array Edge) (guard:Option (Nat×Bool)) :
 execOp ρ ⟨dst,.call ⟨.builtin b,args,ts⟩,type,pos,after,guard⟩=builtin b ts type (args.map fun | .const _=>true | _=>false) (args.map ρ):=rfl
set_option maxHeartbeats 1000000 in
theorem vK {R:Ren} {S:Nat→Prop} {H H':EH} {w:World} (hr:Rel R S H w) (hw:WF H) (hf:Free R H H') (o:Oper) (hk:qi o.op = .light) {a:EA} {ρ:Operand→Value} (hρ:∀ x,x∈o.op.operands→VR R (a.eval x) (ρ x)) {v:V}
 (h:je o.op P a H=some (v,H')) (hS:∀ g,g∈(fpL a H H' (touch o.op)).rd∨g∈(fpL a H H' (touch o.op)).wrs→S g):LightGood P R S H w (execOp ρ o) v H' (fpL a H H' (touch o.op)).wrs:=by
 obtain ⟨dst,op,type,pos,after,guard⟩:=o
 cases op
 case move x=>have h:some (a.eval x,H)=some (v,H'):=h;cases h;exact .of_val hw hr rfl rfl (hρ x (by simp [Op.operands])) _
 case assign x=>have h:some (a.eval x,H)=some (v,H'):=h;cases h;exact .of_val hw hr rfl rfl (hρ x (by simp [Op.operands])) _
 case pick c x y =>
  have h:oO (a.eval c) (a.eval x) (a.eval y) H=some (v,H'):=h
  obtain ⟨e,z,h1,h2⟩:=Nc (P:=P) (w:=w) (hρ c (by simp [Op.operands])) (hρ x (by simp [Op.operands])) (hρ y (by simp [Op.operands])) h
  exact .of_val hw hr e h1 h2 _
 case alloc t=>exact .of_good (IJ hr hw hf h) (fun _ h=>h.elim)
 case box t x=>exact .of_good (vw hr hw hf (hρ x (by simp [Op.operands])) h t) (fun _ h=>h.elim)
 case build t parts=>exact .of_pure hw hr (I4 (fun p hp=>hρ p.2 (by simp only [Op.operands];simp;exact ⟨p.1,hp⟩)) h) _
 case buildSlice t len parts=>exact .of_good (wF hr hw hf (fun p hp=>hρ p.2 (by simp only [Op.operands];simp;exact ⟨p.1,hp⟩)) h) (fun _ h=>h.elim)
 case load t x =>
  have h:uI P t (a.eval x) H=some (v,H'):=h
  have hx:=hρ x (by simp [Op.operands])
  have hS':∀ g,g∈dM H (a.eval x)→S g:=fun g hg=>hS g (.inl hg)
  unfold uI at h
  split at h
  ·rename_i b off e
   rw [e] at hx hS'
   obtain ⟨h1,h2⟩:=dX h
   generalize hz:ρ x=z at hx
   cases hx with
   | ptr hm ho =>
    obtain ⟨y,g1,g2⟩:=oL (P:=P) hr h1 hm ho hS'
    refine .of_pure hw hr ⟨h2,y,?_,g2⟩ _
    rw [hz]
    exact g1
  ·rename_i a g e j ea
   rw [ea] at hx
   obtain ⟨h1,h2⟩:=dX h
   obtain ⟨q,y,e1,g1,g2⟩:=H5 (P:=P) hr h1 hx
   refine .of_pure hw hr ⟨h2,y,?_,g2⟩ _
   rw [e1]
   exact g1
  ·cases h
 case store t x y =>
  obtain ⟨w',h1,h2,h3⟩:=Ii (P:=P) hr hw (hρ x (by simp [Op.operands])) (hρ y (by simp [Op.operands])) h (fun g hg=>hS g (.inr hg))
  exact .of_unit h1 h2 h3 (fun g hg=>hg)
 case nilCheck x =>
  have h:ja (a.eval x) H=some (v,H'):=h
  have hx:=hρ x (by simp [Op.operands])
  obtain ⟨e1,e2,n1,n2,n3,n4⟩:=zC hx h
  subst e2
  refine .of_val hw hr e1 ?_ hx _
  show (match ρ x with | .pointer none | .nilIface | .nilFunc=>runtimePanic .nilDeref | .func (.method name) first captured=>_ | x=>pure (.value x):Sem Next).run P w=_
  split
  ·rename_i e;exact absurd e n1
  ·rename_i e;exact absurd e n2
  ·rename_i e;exact absurd e n3
  ·rename_i e;exact absurd e (n4 _ _ _)
  ·rfl
 case binOp op t x y u =>
  have h:iI H (BL P op t (a.eval x) (a.eval y))=some (v,H'):=h
  obtain ⟨h1,h2⟩:=dX h
  obtain ⟨z,g1,g2⟩:=Qo (P:=P) (w:=w) (hρ x (by simp [Op.operands])) (hρ y (by simp [Op.operands])) h1 x y
  exact .of_pure hw hr ⟨h2,z,g1,g2⟩ _
 case unOp op t x=>exact .of_pure hw hr (TW (hρ x (by simp [Op.operands])) h) _
 case convert s d x=>exact .of_pure hw hr (Nr (hρ x (by simp [Op.operands])) h) _
 case makeFunc fn first captured =>
  exact .of_pure hw hr (zo (AL.mapO fun x hx=>hρ x (by simp only [Op.operands];simp [hx])) (AL.mapO fun x hx=>hρ x (by simp only [Op.operands];simp [hx])) h) _
 case makeMap t r =>
  cases r with
  | none=>exact .of_good (sW hr hw hf h) (fun _ h=>h.elim)
  | some r=>exact .of_good (zB hr hw hf (hρ r (by simp [Op.operands])) h) (fun _ h=>h.elim)
 case makeSlice t l c=>exact .of_good (yu hr hw hf (hρ l (by simp [Op.operands])) (hρ c (by simp [Op.operands])) h) (fun _ h=>h.elim)
 case slice t x lo hi mx =>
  cases mx with
  | none=>exact .of_pure hw hr (Hr hr (fun g hg=>hS g (.inl hg)) (hρ x (by simp [Op.operands])) (oU fun y hy=>hρ y (by subst hy;simp [Op.operands])) (oU fun y hy=>hρ y (by subst hy;simp [Op.operands])) h) _
  | some m =>
   have h:lU P t (a.eval x) (uh a lo) (uh a hi) (uh a (some m)) H=some (v,H'):=h
   exact .of_pure hw hr (GZ (hρ x (by simp [Op.operands])) (oU fun y hy=>hρ y (by subst hy;simp [Op.operands])) (oU fun y hy=>hρ y (by subst hy;simp [Op.operands])) (oU fun y hy=>hρ y (by cases hy;simp [Op.operands])) h) _
 case fieldAddr s x f=>exact .of_pure hw hr (y5 (hρ x (by simp [Op.operands])) h) _
 case field s x f=>exact .of_pure hw hr (Ia (hρ x (by simp [Op.operands])) h) _
 case indexAddr t x i=>exact .of_pure hw hr (xP (hρ x (by simp [Op.operands])) (hρ i (by simp [Op.operands])) h) _
 case index t x i=>exact .of_pure hw hr (Ie (hρ x (by simp [Op.operands])) (hρ i (by simp [Op.operands])) h) _
 case lookup t x i ok=>exact .of_pure hw hr (vz hr (hρ x (by simp [Op.operands])) (hρ i (by simp [Op.operands])) h (fun g hg=>hS g (.inl hg))) _
 case mapUpdate t m k x =>
  obtain ⟨w',h1,h2,h3⟩:=ou (P:=P) hr hw (hρ m (by simp [Op.operands])) (hρ k (by simp [Op.operands])) (hρ x (by simp [Op.operands])) h (fun g hg=>hS g (.inr hg))
  exact .of_unit h1 h2 h3 (fun g hg=>hg)
 case insert t m k x =>
  obtain ⟨w',h1,h2,h3⟩:=ou (P:=P) hr hw (hρ m (by simp [Op.operands])) (hρ k (by simp [Op.operands])) (hρ x (by simp [Op.operands])) h (fun g hg=>hS g (.inr hg))
  exact .of_unit h1 h2 h3 (fun g hg=>hg)
 case mapEntry t m k=>exact nomatch (show (none:VO)=some _ from h)
 case entryStore t m s x=>exact nomatch (show (none:VO)=some _ from h)
 case range t x=>exact .of_good (Hw hr hw hf (hρ x (by simp [Op.operands])) h (fun g hg=>hS g (.inl hg))) (fun _ h=>h.elim)
 case extract t i=>exact .of_pure hw hr (ul (hρ t (by simp [Op.operands])) h) _
 case call c =>
  obtain ⟨callee,args,ts⟩:=c
  cases callee with
  | value f=>cases hk
  | invoke r m=>cases h
  | builtin b =>
   rw [Eh]
   exact zx hr hw hf (fun x hx=>hρ x (by simp only [Op.operands,Call.operands];simpa using hx)) type _ h hS
 all_goals (cases h)
end Go.Ev
/- The evaluator's next name only grows: operations that enter no function. -/
namespace Go.Ev
open Go
variable {P:Program}
theorem fF {H H':EH} {o:Option V} {v:V} (h:iI H o=some (v,H')):H.next≤H'.next:=by
 rw [(dX h).2];exact Nat.le_refl _
theorem EH.new_next {H:EH} {n:Nat} {c:T V} {v:V} {H':EH} {g:Nat→V} (h:H.new n c (fun b H=>some (g b,H))=some (v,H')):H.next≤H'.next:=by
 rw [xk] at h;cases h;exact Nat.le_succ _
theorem vS {H H':EH} {v v':V} (h:H.newVar v=some (v',H')):H.next≤H'.next:=by
 unfold EH.newVar at h
 split at h
 ·exact EH.new_next (g:=fun b => .ptr b 0) h
 ·cases h
theorem kX {H H':EH} {n len e:Nat} {c:T V} {v:V} (h:H.newRow n c len e=some (v,H')):H.next≤H'.next:=EH.new_next (g:=fun b => .slice b 0 len e) h
theorem uP {H H':EH} {z:V} {len:Nat} {k:Nat→T V→VO} {v:V} (hk:∀ n c v H',k n c=some (v,H')→H.next≤H'.next) (h:Dz z len k=some (v,H')):H.next≤H'.next:=by
 unfold Dz at h
 split at h
 ·split at h
  ·exact hk _ _ _ _ h
  ·cases h
 ·cases h
theorem Cf {H H':EH} {b lo sz g:Nat} {c:Option (T V)} (h:H.storeIn b lo sz g c=some H'):H.next=H'.next:=by
 unfold EH.storeIn at h
 split at h<;>cases h;rfl
theorem oJ {H H':EH} {b off n:Nat} {c:T V} (h:H.storeN b off n c=some H'):H.next=H'.next:=by
 unfold EH.storeN at h
 split at h
 ·simp only [cond_eq_ite] at h
  split at h
  ·split at h
   ·exact Cf h
   ·cases h
  ·cases h
 ·cases h
theorem Nv {H H':EH} {e off len m:Nat} {c:T V} {grp n sz':Nat} {g:qo} {v:V} (h:PW H e off len m c grp n sz' g=some (v,H')):H.next≤H'.next:=by
 unfold PW at h;rw [dA] at h;cases h;exact Nat.le_succ _
theorem MH {H H':EH} {e b off len:Nat} {xs:Cs} {v:V} (h:Gz H e b off len xs=some (v,H')):H.next≤H'.next:=by
 unfold Gz at h
 split at h
 ·rw [dA] at h
  simp only [cond_eq_ite] at h
  split at h
  ·split at h
   ·split at h
    ·exact Nv h
    ·cases h
   ·cases h
  ·cases h
 ·cases h
theorem NI {H H':EH} {e:Nat} {v:V} {xs:Cs} (h:Io H e xs=some (v,H')):H.next≤H'.next:=by
 unfold Io at h
 split at h
 ·exact kX h
 ·cases h
theorem DC {H H':EH} {e:Nat} {s v:V} {xs:Cs} (h:H.appendV e s xs=some (v,H')):H.next≤H'.next:=by
 unfold EH.appendV at h
 simp only [cond_eq_ite] at h
 split at h
 ·split at h
  ·cases h;exact Nat.le_refl _
  ·split at h
   ·exact MH h
   ·cases h
 ·split at h
  ·split at h
   ·cases h;exact Nat.le_refl _
   ·exact NI h
  ·cases h
theorem MN {H H':EH} {el:TypeId} {e:Nat} {s x v:V} (h:I9 P el e s x H=some (v,H')):H.next≤H'.next:=by
 unfold I9 at h
 simp only [cond_eq_ite] at h
 split at h
 ·split at h
  ·split at h
   ·unfold Ce at h;rw [dA] at h;cases h;exact Nat.le_succ _
   ·cases h
  ·cases h
 ·cases h
theorem NS {H H':EH} {el:TypeId} {e:Nat} {s x v:V} (h:IW P el e s x H=some (v,H')):H.next≤H'.next:=by
 unfold IW at h
 simp only [cond_eq_ite] at h
 split at h
 ·split at h
  ·exact DC h
  ·cases h
 ·cases h
theorem zJ {H H':EH} {st xt:TypeId} {s x v:V} (h:jH P st xt s x H=some (v,H')):H.next≤H'.next:=by
 unfold jH at h
 simp only [cond_eq_ite] at h
 split at h
 ·split at h
  ·split at h
   ·split at h
    ·exact MN h
    ·cases h
   ·exact NS h
  ·cases h
 ·cases h
theorem IZ {H H':EH} {k:NK} {x v:V} (h:Gv k x H=some (v,H')):H.next≤H'.next:=by
 unfold Gv at h
 repeat' (first | (cases h;done) | (cases h;exact Nat.le_refl _) | split at h)
theorem NR {r:Option EH} {H H':EH} {v:V} (hk:∀ H',r=some H'→H.next≤H'.next) (h:Td r=some (v,H')):H.next≤H'.next:=by
 unfold Td at h
 split at h
 ·cases h;exact hk _ rfl
 ·cases h
theorem Cm {H H':EH} {t:TypeId} {x v:V} (h:rF P t x H=some (v,H')):H.next≤H'.next:=by
 unfold rF at h
 split at h
 ·split at h
  ·rename_i size z _ _
   rw [aH] at h
   split at h
   ·rw [aH] at h
    split at h
    ·cases h;exact Nat.le_refl _
    ·unfold Dz at h
     split at h
     ·split at h
      ·simp only [aH] at h
       split at h
       ·exact NR (fun H' e=>Nat.le_of_eq (oJ e)) h
       ·cases h
      ·cases h
     ·cases h
   ·cases h
  ·cases h
 ·cases h;exact Nat.le_refl _
 ·cases h
theorem EX {H H':EH} {t:TypeId} {s x v:V} (h:xA P t s x H=some (v,H')):H.next≤H'.next:=by
 unfold xA at h
 split at h
 ·split at h
  ·simp only [aH] at h
   split at h
   ·split at h
    ·simp only [bg,aH] at h
     split at h
     ·split at h
      ·cases h;exact Nat.le_refl _
      ·split at h
       ·unfold cpO at h
        split at h
        ·rename_i hst;cases h;exact Nat.le_of_eq (oJ hst)
        ·cases h
       ·cases h
     ·cases h
    ·cases h
   ·cases h
  ·cases h
 ·cases h
theorem EY {H H':EH} {st xt:TypeId} {s x v:V} (h:uN P st xt s x H=some (v,H')):H.next≤H'.next:=by
 unfold uN at h
 simp only [cond_eq_ite] at h
 split at h
 ·unfold Nj at h
  simp only [cond_eq_ite] at h
  split at h
  ·split at h
   ·split at h
    ·split at h
     ·split at h
      ·refine uP (fun n c v H' h=>?_) h
       split at h
       ·exact kX h
       ·cases h
      ·cases h
     ·cases h
    ·cases h
   ·cases h
  ·cases h
 ·exact zJ h
theorem xe {H H':EH} {b:Builtin} {ts:List TypeId} {args:List V} {v:V} (h:iy P b ts args H=some (v,H')):H.next≤H'.next:=by
 unfold iy at h
 split at h
 ·exact IZ h
 ·exact EY h
 ·unfold KG at h;split at h<;>cases h;exact Nat.le_refl _
 ·unfold J4 at h;split at h<;>cases h;exact Nat.le_refl _
 ·unfold KL at h;split at h<;>cases h;exact Nat.le_refl _
 ·exact Cm h
 ·exact EX h
 ·cases h
theorem Ac {b off n:Nat} {H H':EH} {v:V} (h:Ny b off n H=some (v,H')):H.next≤H'.next:=by
 unfold Ny at h;rw [dA] at h;cases h;exact Nat.le_refl _
theorem LP {b off:Nat} {fd:Field} {s:Option Nat} {H H':EH} {v:V} (h:Uh b off fd s H=some (v,H')):H.next≤H'.next:=by
 unfold Uh at h
 split at h
 ·exact Ac h
 ·cases h
theorem NJ {a:Nat} {g:Nat→V} {e j:Nat} {fd:Field} {s:Option Nat} {H H':EH} {v:V} (h:UL a g e j fd s H=some (v,H')):H.next≤H'.next:=by
 unfold UL at h
 split at h
 ·unfold fpO at h;rw [dA] at h;cases h;exact Nat.le_refl _
 ·cases h
theorem Qs {a:Nat} {c:Nat→Nat→V} {len e:Nat} {s:Option Nat} {k:Int} {H H':EH} {v:V} (h:ixF a c len e s k H=some (v,H')):H.next≤H'.next:=by
 unfold ixF at h
 simp only [cond_eq_ite] at h
 split at h
 ·split at h
  ·split at h
   ·cases h;exact Nat.le_refl _
   ·cases h
  ·cases h
 ·cases h
theorem EZ {b off:Nat} {e i:Option Nat} {H H':EH} {v:V} (h:ixO b off e i H=some (v,H')):H.next≤H'.next:=by
 unfold ixO at h
 split at h
 ·exact Ac h
 ·cases h
theorem xM {n:Nat} {c:Option (T V)} {H H':EH} {v:V} (h:zM n c H=some (v,H')):H.next≤H'.next:=by
 unfold zM at h
 split at h<;>cases h;exact Nat.le_refl _
theorem Ht {n len e:Nat} {c:Option (T V)} {H H':EH} {v:V} (h:rowOf n len e c H=some (v,H')):H.next≤H'.next:=by
 unfold rowOf at h
 split at h
 ·exact kX h
 ·cases h
theorem QF {H H':EH} {r:Option EH} {v:V} (hr:∀ H',r=some H'→H.next≤H'.next) (h:stO r=some (v,H')):H.next≤H'.next:=by
 unfold stO at h
 split at h
 ·cases h;exact hr _ rfl
 ·cases h
theorem Ey {z:V} {ok:Bool} {H H':EH} {r:Option (Option (Nat×V))} {v:V} (h:mX z ok H r=some (v,H')):H.next≤H'.next:=by
 unfold mX at h
 split at h<;>cases h<;>exact Nat.le_refl _
theorem Aw {r:Nat} {k x:V} {es:List (V×V×Nat)} {clock:Nat} {H H':EH} {p:Option (Option (Nat×V))} {v:V} (h:OT r k x es clock H p=some (v,H')):H.next≤H'.next:=by
 unfold OT at h
 split at h<;>cases h<;>exact Nat.le_refl _
theorem Jg {op:Op} {a:EA} {H H':EH} {v:V} (h:je op P a H=some (v,H')):H.next≤H'.next:=by
 cases op
 case move x=>cases h;exact Nat.le_refl _
 case assign x=>cases h;exact Nat.le_refl _
 case pick c x y =>
  have h:oO (a.eval c) (a.eval x) (a.eval y) H=some (v,H'):=h
  unfold oO at h
  split at h<;>cases h<;>exact Nat.le_refl _
 case alloc t =>
  have h:rP P t H=some (v,H'):=h
  unfold rP at h
  split at h
  ·exact vS h
  ·cases h
 case box t x=>exact vS h
 case build t parts =>
  have h:ry P t parts a H=some (v,H'):=h
  unfold ry at h
  simp only [cond_eq_ite] at h
  split at h
  ·split at h
   ·exact xM h
   ·cases h
  ·split at h
   ·exact xM h
   ·cases h
  ·cases h
 case buildSlice t len parts =>
  have h:iT P t len parts a H=some (v,H'):=h
  unfold iT at h
  split at h
  ·rw [aH] at h
   by_cases h0:len=0
   ·rw [if_pos h0,aH] at h
    by_cases h1:parts.size=0
    ·rw [if_pos h1] at h
     split at h
     ·split at h
      ·rw [dA] at h;cases h;exact Nat.le_succ _
      ·cases h
     ·cases h
    ·rw [if_neg h1] at h;cases h
   rw [if_neg h0] at h
   split at h
   ·refine uP (fun n c v H' h=>?_) h
    simp only [cond_eq_ite] at h
    split at h
    ·split at h
     ·exact Ht h
     ·cases h
    ·cases h
   ·cases h
  ·cases h
 case load t x =>
  have h:uI P t (a.eval x) H=some (v,H'):=h
  unfold uI at h
  split at h
  ·exact fF h
  ·exact fF h
  ·cases h
 case store t x y =>
  have h:rE P t (a.eval x) (a.eval y) H=some (v,H'):=h
  unfold rE at h
  simp only [cond_eq_ite] at h
  split at h
  ·split at h
   ·split at h
    ·exact QF (fun H' e=>Nat.le_of_eq (oJ e)) h
    ·cases h
   ·cases h
  ·cases h
 case nilCheck x =>
  have h:ja (a.eval x) H=some (v,H'):=h
  unfold ja at h
  split at h<;>cases h<;>exact Nat.le_refl _
 case binOp op t x y u=>exact fF h
 case unOp op t x =>
  have h:FT op (a.eval x) H=some (v,H'):=h
  unfold FT at h
  split at h
  ·cases h;exact Nat.le_refl _
  ·exact fF h
  ·cases h
 case convert s d x =>
  have h:qL P s d (a.eval x) H=some (v,H'):=h
  unfold qL at h
  split at h
  ·exact fF h
  ·cases h
 case makeFunc fn first captured =>
  have h:kJ fn (mapO a first.toList) (mapO a captured.toList) H=some (v,H'):=h
  unfold kJ at h
  split at h<;>cases h;exact Nat.le_refl _
 case makeMap t r =>
  cases r with
  | none =>
   have h:iY H=some (v,H'):=h
   unfold iY at h;rw [dA] at h;cases h;exact Nat.le_succ _
  | some r =>
   have h:kU P t (a.eval r) H=some (v,H'):=h
   unfold kU at h
   split at h
   ·unfold iY at h;rw [dA] at h;cases h;exact Nat.le_succ _
   ·cases h
 case makeSlice t l c =>
  have h:jo P t (a.eval l) (a.eval c) H=some (v,H'):=h
  unfold jo at h
  simp only [cond_eq_ite] at h
  split at h
  ·split at h
   ·split at h
    ·split at h
     ·split at h
      ·refine uP (fun n c v H' h=>?_) h
       split at h
       ·exact kX h
       ·cases h
      ·cases h
     ·cases h
    ·cases h
   ·cases h
  ·cases h
 case slice t x lo hi mx =>
  cases mx with
  | none =>
   have h:pX P t (a.eval x) (uh a lo) (uh a hi) H=some (v,H'):=h
   unfold pX at h
   simp only [cond_eq_ite,dA] at h
   repeat' (first | (cases h;done) | (cases h;exact Nat.le_refl _) | split at h)
  | some m =>
   have h:lU P t (a.eval x) (uh a lo) (uh a hi) (some (a.eval m)) H=some (v,H'):=h
   unfold lU at h
   simp only [cond_eq_ite,dA] at h
   repeat' (first | (cases h;done) | (cases h;exact Nat.le_refl _) | split at h)
 case fieldAddr s x f =>
  have h:jr P s (a.eval x) f H=some (v,H'):=h
  unfold jr at h
  split at h
  ·split at h
   ·exact LP h
   ·cases h
  ·split at h
   ·exact NJ h
   ·cases h
  ·cases h
 case field s x f =>
  have h:sS P s (a.eval x) f H=some (v,H'):=h
  unfold sS at h
  split at h
  ·split at h
   ·exact fF h
   ·cases h
  ·cases h
 case indexAddr t x i =>
  have h:dG P t (a.eval x) (a.eval i) H=some (v,H'):=h
  unfold dG at h
  split at h
  ·exact EZ h
  ·exact EZ h
  ·exact Qs h
  ·cases h
 case index t x i =>
  have h:fU P t (a.eval x) (a.eval i) H=some (v,H'):=h
  unfold fU at h
  split at h
  ·split at h
   ·exact fF h
   ·cases h
  ·split at h
   ·rw [dA] at h;cases h;exact Nat.le_refl _
   ·cases h
  ·cases h
 case lookup t x i ok =>
  have h:dF P t (a.eval x) (a.eval i) ok H=some (v,H'):=h
  unfold dF at h
  simp only [cond_eq_ite] at h
  split at h
  ·split at h
   ·split at h
    ·exact Ey h
    ·cases h
   ·cases h
  ·cases h
 case mapUpdate t m k x =>
  have h:fQ P t (a.eval m) (a.eval k) (a.eval x) H=some (v,H'):=h
  unfold fQ at h
  simp only [cond_eq_ite] at h
  split at h
  ·split at h
   ·split at h
    ·exact Aw ((CU _ _ _ _ _ _ _).symm.trans h)
    ·cases h
   ·cases h
  ·cases h
 case insert t m k x =>
  have h:fQ P t (a.eval m) (a.eval k) (a.eval x) H=some (v,H'):=h
  unfold fQ at h
  simp only [cond_eq_ite] at h
  split at h
  ·split at h
   ·split at h
    ·exact Aw ((CU _ _ _ _ _ _ _).symm.trans h)
    ·cases h
   ·cases h
  ·cases h
 case mapEntry t m k=>exact nomatch (show (none:VO)=some _ from h)
 case entryStore t m s x=>exact nomatch (show (none:VO)=some _ from h)
 case range t x =>
  have h:sU P t (a.eval x) H=some (v,H'):=h
  unfold sU at h
  split at h
  ·split at h
   ·rw [dA] at h;cases h;exact Nat.le_succ _
   ·cases h
  ·cases h
 case extract t i =>
  have h:lV (a.eval t) i H=some (v,H'):=h
  unfold lV at h
  split at h
  ·exact fF h
  ·cases h
 case call c =>
  obtain ⟨callee,args,ts⟩:=c
  cases callee with
  | value f=>cases h
  | invoke r m=>cases h
  | builtin b=>exact xe h
 all_goals (cases h)
end Go.Ev
