/- Casks: contracts: Strengths, Tenths, Duty, Duties: what they are, in words. -/
import Derived.Test.YtpfcfonplmhmiaaGreatYPrC3
set_option linter.all false
set_option linter.unusedSimpArgs false
set_option linter.unusedVariables false
namespace Go.Proofs.YtpfcfonplmhmiaaGreat
open Go Go.Ev
set_option maxRecDepth 1000000
set_option maxHeartbeats 0
noncomputable section
theorem st_bd (lw:Nat) (fw:Nat→Nat→Int) (lm:Nat) (fm:Nat→Nat→Int) (n:Nat) (ls:Nat→Nat) (f:Nat→Nat→Nat→Int) (r:Int) (nc:Nat) (fc:Nat→Nat→Int) (h:StOk lw fw lm fm n ls f r nc fc) {i:Nat} (hi:i<nc):0≤loS lw fw lm fm f fc i∧loS lw fw lm fm f fc i≤hiS lw fw lm fm f fc i∧hiS lw fw lm fm f fc i≤2000:=by
  obtain ⟨_,hw,hm⟩:=h.cask i hi
  obtain ⟨x,y,hx,hy,e1⟩:=bdL_at (lw:=lw) (fw:=fw) (lm:=lm) (fm:=fm) (f:=f) hw.1 hm.1
  obtain ⟨x',y',hx',hy',e2⟩:=bdH_at (lw:=lw) (fw:=fw) (lm:=lm) (fm:=fm) (f:=f) hw.1 hm.1
  have b:=bd_in (lw:=lw) (fw:=fw) (lm:=lm) (fm:=fm) (f:=f) hw.1 hm.1 hx hy
  have hw':=hw
  have hm':=hm
  unfold rgB onB at hw' hm'
  have s1:=str_bd h.ok (x:=x) (y:=y) (by unfold onB;omega) (by unfold onB;omega)
  have s2:=str_bd h.ok (x:=x') (y:=y') (by unfold onB;omega) (by unfold onB;omega)
  unfold loS hiS
  omega
theorem sel_6 (x0 x1 x2 x3 x4 x5:Int) {i:Nat} (g:Nat→Int) (h0:g 0=x0) (h1:g 1=x1) (h2:g 2=x2) (h3:g 3=x3) (h4:g 4=x4) (h5:g 5=x5) (hi:i<6):selI [x0,x1,x2,x3,x4,x5] (Int.ofNat i)=g i:=by
  have:i=0∨i=1∨i=2∨i=3∨i=4∨i=5:=by omega
  rcases this with rfl | rfl | rfl | rfl | rfl | rfl
  · exact h0.symm
  · exact h1.symm
  · exact h2.symm
  · exact h3.symm
  · exact h4.symm
  · exact h5.symm
theorem blt_t' {a b:Nat} (h:a<b):Nat.blt a b=true:=(blt_t _ _).mpr h
theorem blt_f' {a b:Nat} (h:¬ a<b):Nat.blt a b=false:=(blt_f _ _).mpr (by omega)
theorem lo_sel {lw:Nat} {fw:Nat→Nat→Int} {lm:Nat} {fm:Nat→Nat→Int} {f:Nat→Nat→Nat→Int} {nc:Nat} {fc:Nat→Nat→Int} {i:Nat} (h6:nc≤6) (hi:i<nc):selI [loV lw fw lm fm f nc fc 0,loV lw fw lm fm f nc fc 1,loV lw fw lm fm f nc fc 2,loV lw fw lm fm f nc fc 3,loV lw fw lm fm f nc fc 4,loV lw fw lm fm f nc fc 5] (Int.ofNat i)=loS lw fw lm fm f fc i:=by
  rw [sel_6 _ _ _ _ _ _ (loV lw fw lm fm f nc fc) rfl rfl rfl rfl rfl rfl (by omega)]
  unfold loV
  rw [blt_t' hi];rfl
theorem hi_sel {lw:Nat} {fw:Nat→Nat→Int} {lm:Nat} {fm:Nat→Nat→Int} {f:Nat→Nat→Nat→Int} {nc:Nat} {fc:Nat→Nat→Int} {i:Nat} (h6:nc≤6) (hi:i<nc):selI [hiV lw fw lm fm f nc fc 0,hiV lw fw lm fm f nc fc 1,hiV lw fw lm fm f nc fc 2,hiV lw fw lm fm f nc fc 3,hiV lw fw lm fm f nc fc 4,hiV lw fw lm fm f nc fc 5] (Int.ofNat i)=hiS lw fw lm fm f fc i:=by
  rw [sel_6 _ _ _ _ _ _ (hiV lw fw lm fm f nc fc) rfl rfl rfl rfl rfl rfl (by omega)]
  unfold hiV
  rw [blt_t' hi];rfl
theorem lt_sel {k:Nat} {t:Nat→Nat→Int} {i:Nat} (h6:k≤6) (hi:i<k):selI [lvT k t 0,lvT k t 1,lvT k t 2,lvT k t 3,lvT k t 4,lvT k t 5] (Int.ofNat i)=t i 0:=by
  rw [sel_6 _ _ _ _ _ _ (lvT k t) rfl rfl rfl rfl rfl rfl (by omega)]
  unfold lvT
  rw [blt_t' hi];rfl
theorem tnB_mk {nc:Nat} {fc:Nat→Nat→Int} {t0 t1 t2 t3 t4 t5:Int} (h6:nc≤6) (h:∀ i,i<nc→(1≤fc i 0∧fc i 0≤99)∧0≤selI [t0,t1,t2,t3,t4,t5] (Int.ofNat i)∧selI [t0,t1,t2,t3,t4,t5] (Int.ofNat i)≤2000):tnB nc fc t0 t1 t2 t3 t4 t5=true :=
  cond_mk (ble_mk h6) (allN_true fun i hi=>cond_mk (gaB_t.mpr (h i hi).1) (srB_t.mpr (h i hi).2))
theorem tn_lo (lw:Nat) (fw:Nat→Nat→Int) (lm:Nat) (fm:Nat→Nat→Int) (n:Nat) (ls:Nat→Nat) (f:Nat→Nat→Nat→Int) (r:Int) (nc:Nat) (fc:Nat→Nat→Int) (h:StOk lw fw lm fm n ls f r nc fc):tnB nc fc (loV lw fw lm fm f nc fc 0) (loV lw fw lm fm f nc fc 1) (loV lw fw lm fm f nc fc 2) (loV lw fw lm fm f nc fc 3) (loV lw fw lm fm f nc fc 4) (loV lw fw lm fm f nc fc 5)=true:=tnB_mk h.six fun i hi=>by
  rw [lo_sel h.six hi]
  have:=st_bd lw fw lm fm n ls f r nc fc h hi
  exact ⟨(h.cask i hi).1,by omega,by omega⟩
theorem tn_hi (lw:Nat) (fw:Nat→Nat→Int) (lm:Nat) (fm:Nat→Nat→Int) (n:Nat) (ls:Nat→Nat) (f:Nat→Nat→Nat→Int) (r:Int) (nc:Nat) (fc:Nat→Nat→Int) (h:StOk lw fw lm fm n ls f r nc fc):tnB nc fc (hiV lw fw lm fm f nc fc 0) (hiV lw fw lm fm f nc fc 1) (hiV lw fw lm fm f nc fc 2) (hiV lw fw lm fm f nc fc 3) (hiV lw fw lm fm f nc fc 4) (hiV lw fw lm fm f nc fc 5)=true:=tnB_mk h.six fun i hi=>by
  rw [hi_sel h.six hi]
  have:=st_bd lw fw lm fm n ls f r nc fc h hi
  exact ⟨(h.cask i hi).1,by omega,by omega⟩
def Tru (lw:Nat) (fw:Nat→Nat→Int) (lm:Nat) (fm:Nat→Nat→Int) (f:Nat→Nat→Nat→Int) (nc:Nat) (fc:Nat→Nat→Int) (k:Nat) (t:Nat→Nat→Int):Prop:=k=nc∧∀ i,i<nc→loS lw fw lm fm f fc i≤t i 0∧t i 0≤hiS lw fw lm fm f fc i
theorem mn_l {l t:Int}:iEq (mnI l t) l=true↔l≤t:=by
  unfold mnI
  rw [iEq_t,cmin];omega
theorem mn_h {h t:Int}:iEq (mnI h t) t=true↔t≤h:=by
  unfold mnI
  rw [iEq_t,cmin];omega
theorem htV_t {l0 l1 l2 l3 l4 l5 h0 h1 h2 h3 h4 h5 t0 t1 t2 t3 t4 t5:Int}:htV l0 l1 l2 l3 l4 l5 h0 h1 h2 h3 h4 h5 t0 t1 t2 t3 t4 t5=true↔((l0≤t0∧t0≤h0)∧(l1≤t1∧t1≤h1)∧(l2≤t2∧t2≤h2)∧(l3≤t3∧t3≤h3)∧(l4≤t4∧t4≤h4)∧(l5≤t5∧t5≤h5)):=by
  unfold htV
  simp only [Bool.cond_false_right,Bool.and_eq_true,mn_l,mn_h,and_true]
  omega
theorem ht_t (lw:Nat) (fw:Nat→Nat→Int) (lm:Nat) (fm:Nat→Nat→Int) (n:Nat) (ls:Nat→Nat) (f:Nat→Nat→Nat→Int) (r:Int) (nc:Nat) (fc:Nat→Nat→Int) (h:StOk lw fw lm fm n ls f r nc fc) (k:Nat) (t:Nat→Nat→Int):htW k nc (loV lw fw lm fm f nc fc 0) (loV lw fw lm fm f nc fc 1) (loV lw fw lm fm f nc fc 2) (loV lw fw lm fm f nc fc 3) (loV lw fw lm fm f nc fc 4) (loV lw fw lm fm f nc fc 5) (hiV lw fw lm fm f nc fc 0) (hiV lw fw lm fm f nc fc 1) (hiV lw fw lm fm f nc fc 2) (hiV lw fw lm fm f nc fc 3) (hiV lw fw lm fm f nc fc 4) (hiV lw fw lm fm f nc fc 5) t=true↔Tru lw fw lm fm f nc fc k t:=by
  have h6:=h.six
  constructor
  · intro q
    obtain ⟨q1,q2⟩:=cond_tt q
    have q1:=nb q1
    subst q1
    refine ⟨rfl,fun i hi=>?_⟩
    have q3:=htV_t.mp q2
    have e1:loV lw fw lm fm f k fc i=loS lw fw lm fm f fc i:=by unfold loV;rw [blt_t' hi];rfl
    have e2:hiV lw fw lm fm f k fc i=hiS lw fw lm fm f fc i:=by unfold hiV;rw [blt_t' hi];rfl
    have e3:lvT k t i=t i 0:=by unfold lvT;rw [blt_t' hi];rfl
    rw [← e1,← e2,← e3]
    have:i=0∨i=1∨i=2∨i=3∨i=4∨i=5:=by omega
    rcases this with rfl | rfl | rfl | rfl | rfl | rfl<;>omega
  · rintro ⟨rfl,q⟩
    unfold htW
    rw [show Nat.beq k k=true from Nat.beq_refl k]
    have g:∀ i,loV lw fw lm fm f k fc i≤lvT k t i∧lvT k t i≤hiV lw fw lm fm f k fc i:=fun i=>by
      unfold loV hiV lvT
      by_cases hi:i<k
      · rw [blt_t' hi];exact q i hi
      · rw [blt_f' hi];exact ⟨Int.le_refl _,Int.le_refl _⟩
    exact htV_t.mpr ⟨g 0,g 1,g 2,g 3,g 4,g 5⟩
theorem tn_tru (lw:Nat) (fw:Nat→Nat→Int) (lm:Nat) (fm:Nat→Nat→Int) (n:Nat) (ls:Nat→Nat) (f:Nat→Nat→Nat→Int) (r:Int) (nc:Nat) (fc:Nat→Nat→Int) (h:StOk lw fw lm fm n ls f r nc fc) {k:Nat} {t:Nat→Nat→Int} (ht:Tru lw fw lm fm f nc fc k t):tnB nc fc (lvT k t 0) (lvT k t 1) (lvT k t 2) (lvT k t 3) (lvT k t 4) (lvT k t 5)=true:=tnB_mk h.six fun i hi=>by
  have e:=ht.1
  rw [lt_sel (by rw [e];exact h.six) (by omega)]
  have:=st_bd lw fw lm fm n ls f r nc fc h hi
  have:=ht.2 i hi
  exact ⟨(h.cask i hi).1,by omega,by omega⟩
theorem ck_hyp (lw:Nat) (fw:Nat→Nat→Int) (lm:Nat) (fm:Nat→Nat→Int) (n:Nat) (ls:Nat→Nat) (f:Nat→Nat→Nat→Int) (r:Int) (nc:Nat) (fc:Nat→Nat→Int) (h:ckE lw fw lm fm n ls f r nc fc=0):tabE lw fw lm fm n ls f=0∧nc≤6∧acB lw fw lm fm fc nc=true:=by
  have ok:=ckE_get lw fw lm fm n ls f r nc fc h
  rcases ckE_cases lw fw lm fm n ls f r nc fc with ⟨h1,h2⟩ | ⟨_,_,h3⟩ | ⟨_,_,_,h3⟩ | ⟨h1,h2,h3,_⟩
  · rw [h2] at h;exact absurd h h1
  · rw [h3] at h;cases h
  · rw [h3] at h;cases h
  · exact ⟨h1,h2,h3.2.2⟩
def teE (lw:Nat) (fw:Nat→Nat→Int) (lm:Nat) (fm:Nat→Nat→Int) (n:Nat) (ls:Nat→Nat) (f:Nat→Nat→Nat→Int) (r:Int) (nc:Nat) (fc:Nat→Nat→Int) (k:Nat) (t:Nat→Nat→Int):Int:=cond (iEq (ckE lw fw lm fm n ls f r nc fc) 0) (cond (htW k nc (loV lw fw lm fm f nc fc 0) (loV lw fw lm fm f nc fc 1) (loV lw fw lm fm f nc fc 2) (loV lw fw lm fm f nc fc 3) (loV lw fw lm fm f nc fc 4) (loV lw fw lm fm f nc fc 5) (hiV lw fw lm fm f nc fc 0) (hiV lw fw lm fm f nc fc 1) (hiV lw fw lm fm f nc fc 2) (hiV lw fw lm fm f nc fc 3) (hiV lw fw lm fm f nc fc 4) (hiV lw fw lm fm f nc fc 5) t) 0 2) (ckE lw fw lm fm n ls f r nc fc)
theorem teE_cases (lw:Nat) (fw:Nat→Nat→Int) (lm:Nat) (fm:Nat→Nat→Int) (n:Nat) (ls:Nat→Nat) (f:Nat→Nat→Nat→Int) (r:Int) (nc:Nat) (fc:Nat→Nat→Int) (k:Nat) (t:Nat→Nat→Int):(¬ ckE lw fw lm fm n ls f r nc fc=0∧teE lw fw lm fm n ls f r nc fc k t=ckE lw fw lm fm n ls f r nc fc)∨(ckE lw fw lm fm n ls f r nc fc=0∧StOk lw fw lm fm n ls f r nc fc∧¬ Tru lw fw lm fm f nc fc k t∧htW k nc (loV lw fw lm fm f nc fc 0) (loV lw fw lm fm f nc fc 1) (loV lw fw lm fm f nc fc 2) (loV lw fw lm fm f nc fc 3) (loV lw fw lm fm f nc fc 4) (loV lw fw lm fm f nc fc 5) (hiV lw fw lm fm f nc fc 0) (hiV lw fw lm fm f nc fc 1) (hiV lw fw lm fm f nc fc 2) (hiV lw fw lm fm f nc fc 3) (hiV lw fw lm fm f nc fc 4) (hiV lw fw lm fm f nc fc 5) t=false∧teE lw fw lm fm n ls f r nc fc k t=2) ∨
    (ckE lw fw lm fm n ls f r nc fc=0∧StOk lw fw lm fm n ls f r nc fc∧Tru lw fw lm fm f nc fc k t∧htW k nc (loV lw fw lm fm f nc fc 0) (loV lw fw lm fm f nc fc 1) (loV lw fw lm fm f nc fc 2) (loV lw fw lm fm f nc fc 3) (loV lw fw lm fm f nc fc 4) (loV lw fw lm fm f nc fc 5) (hiV lw fw lm fm f nc fc 0) (hiV lw fw lm fm f nc fc 1) (hiV lw fw lm fm f nc fc 2) (hiV lw fw lm fm f nc fc 3) (hiV lw fw lm fm f nc fc 4) (hiV lw fw lm fm f nc fc 5) t=true∧teE lw fw lm fm n ls f r nc fc k t=0):=by
  unfold teE
  by_cases h:ckE lw fw lm fm n ls f r nc fc=0
  · have ok:=ckE_get lw fw lm fm n ls f r nc fc h
    rw [(iEq_t _ _).mpr h]
    cases q:htW k nc (loV lw fw lm fm f nc fc 0) (loV lw fw lm fm f nc fc 1) (loV lw fw lm fm f nc fc 2) (loV lw fw lm fm f nc fc 3) (loV lw fw lm fm f nc fc 4) (loV lw fw lm fm f nc fc 5) (hiV lw fw lm fm f nc fc 0) (hiV lw fw lm fm f nc fc 1) (hiV lw fw lm fm f nc fc 2) (hiV lw fw lm fm f nc fc 3) (hiV lw fw lm fm f nc fc 4) (hiV lw fw lm fm f nc fc 5) t with
    | true=>exact .inr (.inr ⟨h,ok,(ht_t lw fw lm fm n ls f r nc fc ok k t).mp q,rfl,rfl⟩)
    | false=>exact .inr (.inl ⟨h,ok,fun z=>(by rw [(ht_t lw fw lm fm n ls f r nc fc ok k t).mpr z] at q;cases q),rfl,rfl⟩)
  · rw [(iEq_f _ _).mpr h]
    exact .inl ⟨h,rfl⟩
def ssN (lw:Nat) (fw:Nat→Nat→Int) (lm:Nat) (fm:Nat→Nat→Int) (n:Nat) (ls:Nat→Nat) (f:Nat→Nat→Nat→Int) (r:Int) (nc:Nat) (fc:Nat→Nat→Int):Nat:=cond (iEq (ckE lw fw lm fm n ls f r nc fc) 0) nc 0
def valSs:ValS:=fun das=>match das with | [.st [.sl 1 lw fw,.sl 1 lm fm,.rr 1 n ls f,.i .i64 r,.sl 5 nc fc]]=>some (cond (smB lw lm n ls) (Nat.ble nc 1000) false,.tup [.one (.new (.sl 2 (ssN lw fw lm fm n ls f r nc fc) (stF lw fw lm fm f fc))),.one (.new (.i .i64 (ckE lw fw lm fm n ls f r nc fc)))]) | _=>none
theorem conSs:ConS Tryz.prog 9 valSs:=by
  intro das v hv
  unfold valSs at hv
  split at hv
  · rename_i lw fw lm fm n ls f r nc fc
    have hb:=congrArg Prod.fst (Option.some.inj hv)
    have hv:=congrArg Prod.snd (Option.some.inj hv)
    subst hv
    obtain ⟨hb,hn⟩:=cond_tt hb
    have hn:=Nat.le_of_ble_eq_true hn
    by_cases h:ckE lw fw lm fm n ls f r nc fc=0
    · obtain ⟨c1,c2,c3⟩:=ck_hyp lw fw lm fm n ls f r nc fc h
      have e:ssN lw fw lm fm n ls f r nc fc=nc:=by unfold ssN;rw [h];rfl
      rw [h,e]
      exact runDH_ok drawnC XSs_ok (ss2 lw fw lm fm n ls f r nc fc hb h c1 c2 c3)
    · have e:ssN lw fw lm fm n ls f r nc fc=0:=by unfold ssN;rw [(iEq_f _ _).mpr h];rfl
      rw [e]
      exact runDH_ok drawnC XSs_ok (ss1 lw fw lm fm n ls f r nc fc hb hn h)
  · cases hv
def dyV (lw:Nat) (fw:Nat→Nat→Int) (lm:Nat) (fm:Nat→Nat→Int) (n:Nat) (ls:Nat→Nat) (f:Nat→Nat→Nat→Int) (r:Int) (nc:Nat) (fc:Nat→Nat→Int) (k:Nat) (t:Nat→Nat→Int):Int:=cond (iEq (teE lw fw lm fm n ls f r nc fc k t) 0) (duF nc fc r (lvT k t 0) (lvT k t 1) (lvT k t 2) (lvT k t 3) (lvT k t 4) (lvT k t 5)) 0
def valDy:Val:=fun das=>match das with | [.st [.sl 1 lw fw,.sl 1 lm fm,.rr 1 n ls f,.i .i64 r,.sl 5 nc fc],.one (.sl 1 k t)]=>some (cond (smB lw lm n ls) (Nat.ble nc 1000) false,.tup [.int .i64 (dyV lw fw lm fm n ls f r nc fc k t),.int .i64 (teE lw fw lm fm n ls f r nc fc k t)]) | _=>none
theorem conDy:Con Tryz.prog 15 valDy:=by
  intro das v hv
  unfold valDy at hv
  split at hv
  · rename_i lw fw lm fm n ls f r nc fc k t
    have hb:=congrArg Prod.fst (Option.some.inj hv)
    have hv:=congrArg Prod.snd (Option.some.inj hv)
    subst hv
    obtain ⟨hb,hn⟩:=cond_tt hb
    have hn:=Nat.le_of_ble_eq_true hn
    rcases teE_cases lw fw lm fm n ls f r nc fc k t with ⟨h,e⟩ | ⟨h,ok,_,q,e⟩ | ⟨h,ok,ht,q,e⟩
    · have e2:dyV lw fw lm fm n ls f r nc fc k t=0:=by unfold dyV;rw [e,(iEq_f _ _).mpr h];rfl
      rw [e,e2]
      exact con_runV drawnC XSs_ok rfl (das:=[.st [.sl 1 lw fw,.sl 1 lm fm,.rr 1 n ls f,.i .i64 r,.sl 5 nc fc],.one (.sl 1 k t)]) (dy1 lw fw lm fm n ls f r nc fc k t hb hn h)
    · obtain ⟨c1,c2,c3⟩:=ck_hyp lw fw lm fm n ls f r nc fc h
      have e2:dyV lw fw lm fm n ls f r nc fc k t=0:=by unfold dyV;rw [e];rfl
      rw [e,e2]
      exact con_runV drawnC XSs_ok rfl (das:=[.st [.sl 1 lw fw,.sl 1 lm fm,.rr 1 n ls f,.i .i64 r,.sl 5 nc fc],.one (.sl 1 k t)]) (dy2 lw fw lm fm n ls f r nc fc k t hb h c1 c2 c3 q)
    · obtain ⟨c1,c2,c3⟩:=ck_hyp lw fw lm fm n ls f r nc fc h
      have e2:dyV lw fw lm fm n ls f r nc fc k t=duF nc fc r (lvT k t 0) (lvT k t 1) (lvT k t 2) (lvT k t 3) (lvT k t 4) (lvT k t 5):=by unfold dyV;rw [e];rfl
      rw [e,e2]
      exact con_runV drawnC XSs_ok rfl (das:=[.st [.sl 1 lw fw,.sl 1 lm fm,.rr 1 n ls f,.i .i64 r,.sl 5 nc fc],.one (.sl 1 k t)]) (dy3 lw fw lm fm n ls f r nc fc k t hb h c1 c2 c3 (by have:=ht.1;omega) q (tn_tru lw fw lm fm n ls f r nc fc ok ht) (raB_t.mpr ok.rate))
  · cases hv
def dsL (lw:Nat) (fw:Nat→Nat→Int) (lm:Nat) (fm:Nat→Nat→Int) (n:Nat) (ls:Nat→Nat) (f:Nat→Nat→Nat→Int) (r:Int) (nc:Nat) (fc:Nat→Nat→Int):Int:=cond (iEq (ckE lw fw lm fm n ls f r nc fc) 0) (duF nc fc r (loV lw fw lm fm f nc fc 0) (loV lw fw lm fm f nc fc 1) (loV lw fw lm fm f nc fc 2) (loV lw fw lm fm f nc fc 3) (loV lw fw lm fm f nc fc 4) (loV lw fw lm fm f nc fc 5)) 0
def dsH (lw:Nat) (fw:Nat→Nat→Int) (lm:Nat) (fm:Nat→Nat→Int) (n:Nat) (ls:Nat→Nat) (f:Nat→Nat→Nat→Int) (r:Int) (nc:Nat) (fc:Nat→Nat→Int):Int:=cond (iEq (ckE lw fw lm fm n ls f r nc fc) 0) (duF nc fc r (hiV lw fw lm fm f nc fc 0) (hiV lw fw lm fm f nc fc 1) (hiV lw fw lm fm f nc fc 2) (hiV lw fw lm fm f nc fc 3) (hiV lw fw lm fm f nc fc 4) (hiV lw fw lm fm f nc fc 5)) 0
def valDs:Val:=fun das=>match das with | [.st [.sl 1 lw fw,.sl 1 lm fm,.rr 1 n ls f,.i .i64 r,.sl 5 nc fc]]=>some (cond (smB lw lm n ls) (Nat.ble nc 1000) false,.tup [.agg 2 (T.setL .lf 0 [.int .i64 (dsL lw fw lm fm n ls f r nc fc),.int .i64 (dsH lw fw lm fm n ls f r nc fc)]),.int .i64 (ckE lw fw lm fm n ls f r nc fc)]) | _=>none
theorem conDs:Con Tryz.prog 11 valDs:=by
  intro das v hv
  unfold valDs at hv
  split at hv
  · rename_i lw fw lm fm n ls f r nc fc
    have hb:=congrArg Prod.fst (Option.some.inj hv)
    have hv:=congrArg Prod.snd (Option.some.inj hv)
    subst hv
    obtain ⟨hb,hn⟩:=cond_tt hb
    have hn:=Nat.le_of_ble_eq_true hn
    by_cases h:ckE lw fw lm fm n ls f r nc fc=0
    · obtain ⟨c1,c2,c3⟩:=ck_hyp lw fw lm fm n ls f r nc fc h
      have ok:=ckE_get lw fw lm fm n ls f r nc fc h
      have e1:dsL lw fw lm fm n ls f r nc fc=duF nc fc r (loV lw fw lm fm f nc fc 0) (loV lw fw lm fm f nc fc 1) (loV lw fw lm fm f nc fc 2) (loV lw fw lm fm f nc fc 3) (loV lw fw lm fm f nc fc 4) (loV lw fw lm fm f nc fc 5):=by unfold dsL;rw [h];rfl
      have e2:dsH lw fw lm fm n ls f r nc fc=duF nc fc r (hiV lw fw lm fm f nc fc 0) (hiV lw fw lm fm f nc fc 1) (hiV lw fw lm fm f nc fc 2) (hiV lw fw lm fm f nc fc 3) (hiV lw fw lm fm f nc fc 4) (hiV lw fw lm fm f nc fc 5):=by unfold dsH;rw [h];rfl
      rw [h,e1,e2]
      exact con_runV drawnC XSs_ok rfl (das:=[.st [.sl 1 lw fw,.sl 1 lm fm,.rr 1 n ls f,.i .i64 r,.sl 5 nc fc]]) (ds2 lw fw lm fm n ls f r nc fc hb h c1 c2 c3 (tn_lo lw fw lm fm n ls f r nc fc ok) (tn_hi lw fw lm fm n ls f r nc fc ok) (raB_t.mpr ok.rate))
    · have e1:dsL lw fw lm fm n ls f r nc fc=0:=by unfold dsL;rw [(iEq_f _ _).mpr h];rfl
      have e2:dsH lw fw lm fm n ls f r nc fc=0:=by unfold dsH;rw [(iEq_f _ _).mpr h];rfl
      rw [e1,e2]
      exact con_runV drawnC XSs_ok rfl (das:=[.st [.sl 1 lw fw,.sl 1 lm fm,.rr 1 n ls f,.i .i64 r,.sl 5 nc fc]]) (ds1 lw fw lm fm n ls f r nc fc hb hn h)
  · cases hv
end
end Go.Proofs.YtpfcfonplmhmiaaGreat
