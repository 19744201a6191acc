/- Casks: contracts: a move is sound, a gauge is; all are. -/
import Derived.Test.YtflblednifbleaaYCaC2
set_option linter.all false
set_option linter.unusedSimpArgs false
set_option linter.unusedVariables false
namespace Go.Proofs.Ytflblednifbleaa
open Go Go.Ev
set_option maxRecDepth 1000000
set_option maxHeartbeats 0
noncomputable section
variable (nc:Nat) (fi:Nat→Nat→Int) (fb:Nat→Nat→Bool) (ls:Nat→Nat→Nat) (fr:Nat→Nat→Nat→Nat→Int) (nm:Nat) (fm:Nat→Nat→Int) (ng:Nat) (gi:Nat→Nat→Int) (gb:Nat→Nat→Bool) (gl:Nat→Nat→Nat) (gr:Nat→Nat→Nat→Nat→Int)
def plB (nc:Nat) (x:Int):Bool:=cond (aK x (-1)) true (cond (ai 0 x) (ai (x+1) (Int.ofNat nc)) false)
def mvB (nc:Nat) (a b lo hi:Int):Bool:=cond (not (aK a b)) (cond (plB nc a) (cond (plB nc b) (cond (rgK lo hi 1 1000) (ai (hi-lo) 8) false) false) false) false
def ggB (nc:Nat) (l:Nat→Nat) (r:Nat→Nat→Nat→Int) (nm:Nat) (k a lo hi:Int):Bool:=cond (cond (ai 0 k) (ai (k+1) (Int.ofNat nc)) false) (cond (cond (ai 0 a) (ai a (Int.ofNat nm)) false) (rgK lo hi 0 (r (Int.toNat k) (l (Int.toNat k)-1) 0)) false) false
theorem sv1 (a b lo hi:Int) (h1:nc≤3) (h:a≠b∧(a = -1∨(0≤a∧a<nc))∧(b = -1∨(0≤b∧b<nc))∧lo≤hi∧1≤lo∧lo≤1000∧1≤hi∧hi≤1000∧hi-lo≤8):VC (bi Try.prog aA 600 57 (enc [.st [.rw [.r 2,.i,.i,.i,.i] nc fi fb ls fr,.sl 4 nm fm,.rw [.i,.i,.i,.i,.b] ng gi gb gl gr],.st [.i .i64 a,.i .i64 b,.i .i64 lo,.i .i64 hi]] 0) 3 (fun v=>bC v (.bool true))) (.go 257 (.sp (.go 101413286034150721471273425698816 .nil) (.go 269484096 (.sp (.go 94448482649541200576512 .nil) (.go 96715246233130189391396928 .nil))))):=ay (((not (aK a b))=true∧(((aK a (-1))=true→((aK b (-1))=false∧((ai 0 b)=true∧((not (ai (nc:Int) b))=true∧((not (not (ai lo hi)))=true∧((ai 1 lo)=true∧((ai lo 1000)=true∧((ai 1 hi)=true∧((ai hi 1000)=true∧((small (hi-lo))=true∧((ai (hi-lo) 8)=true))))))))))) ∧
 ((aK a (-1))=false→((ai (0) a)=true∧((not (ai ((nc:Nat):Int) a))=true∧(((aK b (-1))=true→((not (not (ai lo hi)))=true∧((ai (1) lo)=true∧((ai lo (1000))=true∧((ai (1) hi)=true∧((ai hi (1000))=true∧((small (hi-lo))=true∧((ai (hi-lo) (8))=true)))))))) ∧
 ((aK b (-1))=false→((ai (0) b)=true∧((not (ai ((nc:Nat):Int) b))=true∧((not (not (ai lo hi)))=true∧((ai (1) lo)=true∧((ai lo (1000))=true∧((ai (1) hi)=true∧((ai hi (1000))=true∧((small (hi-lo))=true∧((ai (hi-lo) (8))=true)))))))))))))))))
theorem sv2 (a b lo hi:Int) (h1:nc≤3) (h:¬ (a≠b∧(a = -1∨(0≤a∧a<nc))∧(b = -1∨(0≤b∧b<nc))∧lo≤hi∧1≤lo∧lo≤1000∧1≤hi∧hi≤1000∧hi-lo≤8)):VC (bi Try.prog aA 600 57 (enc [.st [.rw [.r 2,.i,.i,.i,.i] nc fi fb ls fr,.sl 4 nm fm,.rw [.i,.i,.i,.i,.b] ng gi gb gl gr],.st [.i .i64 a,.i .i64 b,.i .i64 lo,.i .i64 hi]] 0) 3 (fun v=>bC v (.bool false))) (.sp (.go 64 (.sp (.go 67633152 (.sp (.go 4096 (.sp (.go 64 (.sp (.go 64 (.sp (.go 1024 (.sp (.go 1048640 (.sp (.go 20480 .nil) .nil)) .nil)) .nil)) .nil)) .nil)) .nil)) (.go 64 (.sp (.go 4096 (.sp (.go 64 (.sp (.go 262144 (.sp (.go 64 (.sp (.go 1024 (.sp (.go 1048640 (.sp (.go 20480 .nil) .nil)) .nil)) .nil)) .nil)) (.go 64 (.sp (.go 4096 (.sp (.go 64 (.sp (.go 64 (.sp (.go 1024 (.sp (.go 1048640 (.sp (.go 20480 .nil) .nil)) .nil)) .nil)) .nil)) .nil)) .nil)))) .nil)) .nil)))) .nil):=ay ((((not (aK a b))=true→(((aK a (-1))=true→((aK b (-1))=false∧(((ai 0 b)=true→(((not (ai (nc:Int) b))=true→(((not (not (ai lo hi)))=true→(((ai 1 lo)=true→(((ai lo 1000)=true→((ai 1 hi)=true∧(((ai hi 1000)=true→((small (hi-lo))=true∧((ai (hi-lo) 8)=false))) ∧
 ((ai hi (1000))=false→(false=false))))) ∧
 ((ai lo (1000))=false→(false=false)))) ∧
 ((ai (1) lo)=false→(false=false)))) ∧
 ((not (not (ai lo hi)))=false→(false=false)))) ∧
 ((not (ai ((nc:Nat):Int) b))=false→(false=false)))) ∧
 ((ai (0) b)=false→(false=false))))) ∧
 ((aK a (-1))=false→(((ai (0) a)=true→(((not (ai ((nc:Nat):Int) a))=true→(((aK b (-1))=true→(((not (not (ai lo hi)))=true→(((ai (1) lo)=true→(((ai lo (1000))=true→((ai (1) hi)=true∧(((ai hi (1000))=true→((small (hi-lo))=true∧((ai (hi-lo) (8))=false))) ∧
 ((ai hi (1000))=false→(false=false))))) ∧
 ((ai lo (1000))=false→(false=false)))) ∧
 ((ai (1) lo)=false→(false=false)))) ∧
 ((not (not (ai lo hi)))=false→(false=false)))) ∧
 ((aK b (-1))=false→(((ai (0) b)=true→(((not (ai ((nc:Nat):Int) b))=true→(((not (not (ai lo hi)))=true→(((ai (1) lo)=true→(((ai lo (1000))=true→((ai (1) hi)=true∧(((ai hi (1000))=true→((small (hi-lo))=true∧((ai (hi-lo) (8))=false))) ∧
 ((ai hi (1000))=false→(false=false))))) ∧
 ((ai lo (1000))=false→(false=false)))) ∧
 ((ai (1) lo)=false→(false=false)))) ∧
 ((not (not (ai lo hi)))=false→(false=false)))) ∧
 ((not (ai ((nc:Nat):Int) b))=false→(false=false)))) ∧
 ((ai (0) b)=false→(false=false)))))) ∧
 ((not (ai ((nc:Nat):Int) a))=false→(false=false)))) ∧
 ((ai (0) a)=false→(false=false)))))) ∧
 ((not (aK a b))=false→(false=false))))
theorem sg1 (k a lo hi:Int) (y:Bool) (h1:nc≤3) (h2:nm≤4) (hl:2≤ls (Int.toNat k) 0) (hm:ls (Int.toNat k) 0≤5) (h:0≤k∧k<nc∧0≤a∧a≤nm∧lo≤hi∧0≤lo∧lo≤(fr (Int.toNat k) 0 (Int.toNat (((ls (Int.toNat k) 0:Nat):Int)-1)) 0)∧0≤hi∧hi≤(fr (Int.toNat k) 0 (Int.toNat (((ls (Int.toNat k) 0:Nat):Int)-1)) 0)):VC (bi Try.prog aA 600 58 (enc [.st [.rw [.r 2,.i,.i,.i,.i] nc fi fb ls fr,.sl 4 nm fm,.rw [.i,.i,.i,.i,.b] ng gi gb gl gr],.st [.i .i64 k,.i .i64 a,.i .i64 lo,.i .i64 hi,.b y]] 0) 3 (fun v=>bC v (.bool true))) (.go 96789641957345008841655297 .nil):=ay (((ai 0 k)=true∧((not (ai (nc:Int) k))=true∧((ai 0 a)=true∧((ai a (nm:Int))=true∧((cZ k nc)=true∧((small ((((ls (Int.toNat k) 0):Nat):Int)-(1)))=true∧((cZ ((((ls (Int.toNat k) 0):Nat):Int)-(1)) (ls (Int.toNat k) 0))=true∧((not (not (ai lo hi)))=true∧((ai 0 lo)=true∧((ai lo (fr (Int.toNat k) 0 (Int.toNat ((((ls (Int.toNat k) 0):Nat):Int)-(1))) 0))=true∧((ai 0 hi)=true∧((ai hi (fr (Int.toNat k) 0 (Int.toNat ((((ls (Int.toNat k) 0):Nat):Int)-(1))) 0))=true)))))))))))))
theorem sg2 (k a lo hi:Int) (y:Bool) (h1:nc≤3) (h2:nm≤4) (hl:0≤k→k<nc→2≤ls (Int.toNat k) 0∧ls (Int.toNat k) 0≤5) (h:¬ (0≤k∧k<nc∧0≤a∧a≤nm∧lo≤hi∧0≤lo∧lo≤(fr (Int.toNat k) 0 (Int.toNat (((ls (Int.toNat k) 0:Nat):Int)-1)) 0)∧0≤hi∧hi≤(fr (Int.toNat k) 0 (Int.toNat (((ls (Int.toNat k) 0:Nat):Int)-1)) 0))):VC (bi Try.prog aA 600 58 (enc [.st [.rw [.r 2,.i,.i,.i,.i] nc fi fb ls fr,.sl 4 nm fm,.rw [.i,.i,.i,.i,.b] ng gi gb gl gr],.st [.i .i64 k,.i .i64 a,.i .i64 lo,.i .i64 hi,.b y]] 0) 3 (fun v=>bC v (.bool false))) (.sp (.go 256 (.sp (.go 64 (.sp (.go 1024 (.sp (.go 18092032 (.sp (.go 64 (.sp (.go 1024 (.sp (.go 320 .nil) .nil)) .nil)) .nil)) .nil)) .nil)) .nil)) .nil):=ay ((((ai 0 k)=true→(((not (ai (nc:Int) k))=true→(((ai 0 a)=true→(((ai a (nm:Int))=true→((cZ k nc)=true∧((small ((((ls (Int.toNat k) 0):Nat):Int)-(1)))=true∧((cZ ((((ls (Int.toNat k) 0):Nat):Int)-(1)) (ls (Int.toNat k) 0))=true∧(((not (not (ai lo hi)))=true→(((ai 0 lo)=true→(((ai lo (fr (Int.toNat k) 0 (Int.toNat ((((ls (Int.toNat k) 0):Nat):Int)-(1))) 0))=true→((ai 0 hi)=true∧((ai hi (fr (Int.toNat k) 0 (Int.toNat ((((ls (Int.toNat k) 0):Nat):Int)-(1))) 0))=false))) ∧
 ((ai lo (fr (Int.toNat k) 0 (Int.toNat ((((ls (Int.toNat k) 0):Nat):Int)-(1))) 0))=false→(false=false)))) ∧
 ((ai (0) lo)=false→(false=false)))) ∧
 ((not (not (ai lo hi)))=false→(false=false))))))) ∧
 ((ai a ((nm:Nat):Int))=false→(false=false)))) ∧
 ((ai (0) a)=false→(false=false)))) ∧
 ((not (ai ((nc:Nat):Int) k))=false→(false=false)))) ∧
 ((ai (0) k)=false→(false=false))))
def lnB (nc:Nat) (l:Nat→Nat):Bool:=dP (fun i=>cond (Nat.ble 2 (l i)) (Nat.ble (l i) 5) false) nc
def Qa:Val:=fun das=>match das with | [.st [.rw [.r 2,.i,.i,.i,.i] nc fi fb ls fr,.sl 4 nm fm,.rw [.i,.i,.i,.i,.b] ng gi gb gl gr],.st [.i .i64 a,.i .i64 b,.i .i64 lo,.i .i64 hi]]=>some (Nat.ble nc 3,.bool (mvB nc a b lo hi)) | _=>none
def O5:Val:=fun das=>match das with | [.st [.rw [.r 2,.i,.i,.i,.i] nc fi fb ls fr,.sl 4 nm fm,.rw [.i,.i,.i,.i,.b] ng gi gb gl gr],.st [.i .i64 k,.i .i64 a,.i .i64 lo,.i .i64 hi,.b y]]=>some (cond (Nat.ble nc 3) (cond (Nat.ble nm 4) (lnB nc (fun i=>ls i 0)) false) false,.bool (ggB nc (fun i=>ls i 0) (fun i=>fr i 0) nm k a lo hi)) | _=>none
theorem plB_t {nc:Nat} {x:Int}:plB nc x=true↔x = -1∨(0≤x∧x<nc):=by
 unfold plB
 constructor
 ·intro h
  cases e:aK x (-1) with
  | true=>exact .inl ((dw _ _).mp e)
  | false =>
   rw [e] at h
   obtain ⟨h1,h2⟩:=ax (show cond (ai 0 x) (ai (x+1) (Int.ofNat nc)) false=true from h)
   have h2:=(aW _ _).mp h2
   have h2:x+1≤((nc:Nat):Int):=h2
   exact .inr ⟨(aW _ _).mp h1,by omega⟩
 ·intro h
  cases e:aK x (-1) with
  | true=>rfl
  | false =>
   have e:=(kY _ _).mp e
   rcases h with h | ⟨h1,h2⟩
   ·exact absurd h e
   ·exact bY ((aW _ _).mpr h1) ((aW _ _).mpr (show x+1≤((nc:Nat):Int) by omega))
theorem mvB_t {nc:Nat} {a b lo hi:Int}:mvB nc a b lo hi=true↔a≠b∧(a = -1∨(0≤a∧a<nc))∧(b = -1∨(0≤b∧b<nc))∧lo≤hi∧1≤lo∧lo≤1000∧1≤hi∧hi≤1000∧hi-lo≤8:=by
 unfold mvB
 constructor
 ·intro h
  obtain ⟨h1,h⟩:=ax h
  obtain ⟨h2,h⟩:=ax h
  obtain ⟨h3,h⟩:=ax h
  obtain ⟨h4,h5⟩:=ax h
  have h1:=(kY _ _).mp ((BH _).mp h1)
  obtain ⟨r1,r2,r3,r4,r5⟩:=rgK_t.mp h4
  exact ⟨h1,plB_t.mp h2,plB_t.mp h3,r1,r2,r3,r4,r5,(aW _ _).mp h5⟩
 ·rintro ⟨h1,h2,h3,r1,r2,r3,r4,r5,h5⟩
  exact bY ((BH _).mpr ((kY _ _).mpr h1)) (bY (plB_t.mpr h2) (bY (plB_t.mpr h3) (bY (rgK_t.mpr ⟨r1,r2,r3,r4,r5⟩) ((aW _ _).mpr h5))))
theorem Be {nc:Nat} {l:Nat→Nat} (h:lnB nc l=true) {i:Nat} (hi:i<nc):2≤l i∧l i≤5:=by
 obtain ⟨h1,h2⟩:=ax (aQ h i hi)
 exact ⟨Nat.le_of_ble_eq_true h1,Nat.le_of_ble_eq_true h2⟩
theorem zS {nc:Nat} {ls:Nat→Nat→Nat} {fr:Nat→Nat→Nat→Nat→Int} {nm:Nat} {k a lo hi:Int} (hl:lnB nc (fun i=>ls i 0)=true):ggB nc (fun i=>ls i 0) (fun i=>fr i 0) nm k a lo hi=true↔0≤k∧k<nc∧0≤a∧a≤nm∧lo≤hi∧0≤lo∧lo≤(fr (Int.toNat k) 0 (Int.toNat (((ls (Int.toNat k) 0:Nat):Int)-1)) 0)∧0≤hi∧hi≤(fr (Int.toNat k) 0 (Int.toNat (((ls (Int.toNat k) 0:Nat):Int)-1)) 0):=by
 unfold ggB
 constructor
 ·intro h
  obtain ⟨h1,h⟩:=ax h
  obtain ⟨h2,h3⟩:=ax h
  obtain ⟨a1,a2⟩:=ax h1
  obtain ⟨b1,b2⟩:=ax h2
  obtain ⟨r1,r2,r3,r4,r5⟩:=rgK_t.mp h3
  have a1:=(aW _ _).mp a1
  have a2:k+1≤((nc:Nat):Int):=(aW _ _).mp a2
  have l:2≤ls (Int.toNat k) 0∧ls (Int.toNat k) 0≤5:=Be hl (i:=Int.toNat k) (by omega)
  rw [lQ l.1]
  exact ⟨a1,by omega,(aW _ _).mp b1,(aW _ _).mp b2,r1,r2,r3,r4,r5⟩
 ·rintro ⟨a1,a2,b1,b2,r1,r2,r3,r4,r5⟩
  have l:2≤ls (Int.toNat k) 0∧ls (Int.toNat k) 0≤5:=Be hl (i:=Int.toNat k) (by omega)
  rw [lQ l.1] at r3 r5
  exact bY (bY ((aW _ _).mpr a1) ((aW _ _).mpr (show k+1≤((nc:Nat):Int) by omega))) (bY (bY ((aW _ _).mpr b1) ((aW _ _).mpr (show a≤Int.ofNat nm from b2))) (rgK_t.mpr ⟨r1,r2,r3,r4,r5⟩))
theorem Xj:zA Try.prog 57 Qa:=by
 intro das v hv
 unfold Qa at hv
 split at hv
 ·rename_i nc fi fb ls fr nm fm ng gi gb gl gr a b lo hi
  have hb:=congrArg Prod.fst (Option.some.inj hv)
  have hv:=congrArg Prod.snd (Option.some.inj hv)
  subst hv
  have hb:=Nat.le_of_ble_eq_true hb
  cases hs:mvB nc a b lo hi with
  | true=>exact aJ au aj rfl (das:=[.st [.rw [.r 2,.i,.i,.i,.i] nc fi fb ls fr,.sl 4 nm fm,.rw [.i,.i,.i,.i,.b] ng gi gb gl gr],.st [.i .i64 a,.i .i64 b,.i .i64 lo,.i .i64 hi]]) (sv1 nc fi fb ls fr nm fm ng gi gb gl gr a b lo hi hb (mvB_t.mp hs))
  | false=>exact aJ au aj rfl (das:=[.st [.rw [.r 2,.i,.i,.i,.i] nc fi fb ls fr,.sl 4 nm fm,.rw [.i,.i,.i,.i,.b] ng gi gb gl gr],.st [.i .i64 a,.i .i64 b,.i .i64 lo,.i .i64 hi]]) (sv2 nc fi fb ls fr nm fm ng gi gb gl gr a b lo hi hb (fun q=>by rw [mvB_t.mpr q] at hs;cases hs))
 ·cases hv
theorem WW:zA Try.prog 58 O5:=by
 intro das v hv
 unfold O5 at hv
 split at hv
 ·rename_i nc fi fb ls fr nm fm ng gi gb gl gr k a lo hi y
  have hb:=congrArg Prod.fst (Option.some.inj hv)
  have hv:=congrArg Prod.snd (Option.some.inj hv)
  subst hv
  obtain ⟨h1,hb⟩:=ax hb
  obtain ⟨h2,h3⟩:=ax hb
  have h1:=Nat.le_of_ble_eq_true h1
  have h2:=Nat.le_of_ble_eq_true h2
  have hl:0≤k→k<nc→2≤ls (Int.toNat k) 0∧ls (Int.toNat k) 0≤5:=fun a b=>Be h3 (by omega)
  cases hs:ggB nc (fun i=>ls i 0) (fun i=>fr i 0) nm k a lo hi with
  | true =>
   have q:=(zS h3).mp hs
   exact aJ au aj rfl (das:=[.st [.rw [.r 2,.i,.i,.i,.i] nc fi fb ls fr,.sl 4 nm fm,.rw [.i,.i,.i,.i,.b] ng gi gb gl gr],.st [.i .i64 k,.i .i64 a,.i .i64 lo,.i .i64 hi,.b y]]) (sg1 nc fi fb ls fr nm fm ng gi gb gl gr k a lo hi y h1 h2 (hl q.1 q.2.1).1 (hl q.1 q.2.1).2 q)
  | false=>exact aJ au aj rfl (das:=[.st [.rw [.r 2,.i,.i,.i,.i] nc fi fb ls fr,.sl 4 nm fm,.rw [.i,.i,.i,.i,.b] ng gi gb gl gr],.st [.i .i64 k,.i .i64 a,.i .i64 lo,.i .i64 hi,.b y]]) (sg2 nc fi fb ls fr nm fm ng gi gb gl gr k a lo hi y h1 h2 hl (fun q=>by rw [(zS h3).mpr q] at hs;cases hs))
 ·cases hv
def wG:Ext:=zG [(57,cf Qa),(58,cf O5),(59,cf Qe)] false
theorem dK:dC Try.prog wG:=jL (aS (dL Xj)<|aS (dL WW)<|aS (dL XV) eu)
def ltV:LT:=⟨[1,7,8,9],[],[4],5⟩
def sV (m:Nat) (g:Nat→Nat→Int) (nc:Nat) (fi:Nat→Nat→Int) (fb:Nat→Nat→Bool) (ls:Nat→Nat→Nat) (fr:Nat→Nat→Nat→Nat→Int) (nm:Nat) (fm:Nat→Nat→Int) (ng:Nat) (gi:Nat→Nat→Int) (gb:Nat→Nat→Bool) (gl:Nat→Nat→Nat) (gr:Nat→Nat→Nat→Nat→Int) (k:Nat):LS:=⟨[.func 57 [.agg 3 (T.setL .lf 0 [.fz true 1 (ah 1 [.r 2,.i,.i,.i,.i] fi fb ls fr) nc 5,.fz true 2 (ae .i64 fm) nm 4,.fz true 3 (ah 3 [.i,.i,.i,.i,.b] gi gb gl gr) ng 5])] [],.fz true 0 (ae .i64 g) m 4,.int .i64 m,.int .i64 k],[]⟩
def bV:Code:=sub [1,0,1,0,0] (dV Try.prog 60)
theorem eV (m:Nat) (g:Nat→Nat→Int) (nc:Nat) (fi:Nat→Nat→Int) (fb:Nat→Nat→Bool) (ls:Nat→Nat→Nat) (fr:Nat→Nat→Nat→Nat→Int) (nm:Nat) (fm:Nat→Nat→Int) (ng:Nat) (gi:Nat→Nat→Int) (gb:Nat→Nat→Bool) (gl:Nat→Nat→Nat) (gr:Nat→Nat→Nat→Nat→Int):VC (xn Try.prog wG 300 60 [1,0,1,0] [.one (.sl 4 m g),.cl 57 [.rw [.r 2,.i,.i,.i,.i] nc fi fb ls fr,.sl 4 nm fm,.rw [.i,.i,.i,.i,.b] ng gi gb gl gr]] (aY 5) ltV 18 60 (sV m g nc fi fb ls fr nm fm ng gi gb gl gr 0)) .nil:=ay ((True∧((((V.func 57
 [V.agg
  (eY
   [D0.rw [CK.r 2,CK.i,CK.i,CK.i,CK.i] nc fi fb ls fr,D0.sl 4 nm fm,
    D0.rw [CK.i,CK.i,CK.i,CK.i,CK.b] ng gi gb gl gr])
  (T.lf.setL 0
   (eH
    [D0.rw [CK.r 2,CK.i,CK.i,CK.i,CK.i] nc fi fb ls fr,D0.sl 4 nm fm,
     D0.rw [CK.i,CK.i,CK.i,CK.i,CK.b] ng gi gb gl gr]
    (nxD (DA.one (D0.sl 4 m g)) 0)))]
 []:V)=V.func 57
 [V.agg 3
  (T.lf.setL 0
   [V.fz true 1 (ah 1 [CK.r 2,CK.i,CK.i,CK.i,CK.i] fi fb ls fr) nc 5,
    V.fz true 2 (ae .i64 fm) nm 4,
    V.fz true 3 (ah 3 [CK.i,CK.i,CK.i,CK.i,CK.b] gi gb gl gr) ng 5])]
 [])∧((((V.fz true 0 (ae .i64 g) m 4):V)=(V.fz true 0 (ae .i64 g) m 4))∧(((((m:Nat):Int):Int)=((m:Nat):Int))∧((((0):Int)=(0))∧True))))∧True)))
theorem rV1 (m:Nat) (g:Nat→Nat→Int) (nc:Nat) (fi:Nat→Nat→Int) (fb:Nat→Nat→Bool) (ls:Nat→Nat→Nat) (fr:Nat→Nat→Nat→Nat→Int) (nm:Nat) (fm:Nat→Nat→Int) (ng:Nat) (gi:Nat→Nat→Int) (gb:Nat→Nat→Bool) (gl:Nat→Nat→Nat) (gr:Nat→Nat→Nat→Nat→Int) (k:Nat) (c3:nc≤3) (h1:k<m) (h2:m≤1000000) (h3:mvB nc (g k 0) (g k 1) (g k 2) (g k 3)=true):VC (aT Try.prog wG 300 bV (aY 5) ltV 18 60 (sV m g nc fi fb ls fr nm fm ng gi gb gl gr k) (.next (sV m g nc fi fb ls fr nm fm ng gi gb gl gr (k+1)))) (.go 1429 .nil):=ay (((not (ai (m:Int) (k:Int)))=true∧((Nat.blt k m)=true∧((cond (cond (cond (aF 1 (ah 1 [.r 2,.i,.i,.i,.i] fi fb ls fr) [.r 2,.i,.i,.i,.i] nc 5) (cond (aO .i64 (ae .i64 fm) nm 4) (cond (aF 3 (ah 3 [.i,.i,.i,.i,.b] gi gb gl gr) [.i,.i,.i,.i,.b] ng 5) true false) false) false) true false) (Nat.ble nc 3) false)=true∧((not (mvB nc (g k 0) (g k 1) (g k 2) (g k 3)))=false∧((small ((k:Int)+1))=true∧((((V.func 57
 [V.agg 3
  (T.lf.setL 0
   [V.fz true 1 (ah 1 [CK.r 2,CK.i,CK.i,CK.i,CK.i] fi fb ls fr) nc 5,
    V.fz true 2 (ae .i64 fm) nm 4,
    V.fz true 3 (ah 3 [CK.i,CK.i,CK.i,CK.i,CK.b] gi gb gl gr) ng 5])]
 []:V)=V.func 57
 [V.agg 3
  (T.lf.setL 0
   [V.fz true 1 (ah 1 [CK.r 2,CK.i,CK.i,CK.i,CK.i] fi fb ls fr) nc 5,
    V.fz true 2 (ae .i64 fm) nm 4,
    V.fz true 3 (ah 3 [CK.i,CK.i,CK.i,CK.i,CK.b] gi gb gl gr) ng 5])]
 [])∧((((V.fz true 0 (ae .i64 g) m 4):V)=(V.fz true 0 (ae .i64 g) m 4))∧(((((m:Nat):Int):Int)=((m:Nat):Int))∧((((((k:Nat):Int)+(1)):Int)=(((k+1):Nat):Int))∧True))))∧True)))))))
theorem rV2 (m:Nat) (g:Nat→Nat→Int) (nc:Nat) (fi:Nat→Nat→Int) (fb:Nat→Nat→Bool) (ls:Nat→Nat→Nat) (fr:Nat→Nat→Nat→Nat→Int) (nm:Nat) (fm:Nat→Nat→Int) (ng:Nat) (gi:Nat→Nat→Int) (gb:Nat→Nat→Bool) (gl:Nat→Nat→Nat) (gr:Nat→Nat→Nat→Nat→Int) (k:Nat) (c3:nc≤3) (h1:k<m) (h2:m≤1000000) (h3:mvB nc (g k 0) (g k 1) (g k 2) (g k 3)=false):VC (aT Try.prog wG 300 bV (aY 5) ltV 18 60 (sV m g nc fi fb ls fr nm fm ng gi gb gl gr k) (.ret ⟨[.bool false],[]⟩)) (.go 341 .nil):=ay (((not (ai (m:Int) (k:Int)))=true∧((Nat.blt k m)=true∧((cond (cond (cond (aF 1 (ah 1 [.r 2,.i,.i,.i,.i] fi fb ls fr) [.r 2,.i,.i,.i,.i] nc 5) (cond (aO .i64 (ae .i64 fm) nm 4) (cond (aF 3 (ah 3 [.i,.i,.i,.i,.b] gi gb gl gr) [.i,.i,.i,.i,.b] ng 5) true false) false) false) true false) (Nat.ble nc 3) false)=true∧((not (mvB nc (g k 0) (g k 1) (g k 2) (g k 3)))=true∧(((false=false)∧True)∧True))))))
theorem rV3 (m:Nat) (g:Nat→Nat→Int) (nc:Nat) (fi:Nat→Nat→Int) (fb:Nat→Nat→Bool) (ls:Nat→Nat→Nat) (fr:Nat→Nat→Nat→Nat→Int) (nm:Nat) (fm:Nat→Nat→Int) (ng:Nat) (gi:Nat→Nat→Int) (gb:Nat→Nat→Bool) (gl:Nat→Nat→Nat) (gr:Nat→Nat→Nat→Nat→Int) (k:Nat) (h1:¬ k<m):VC (aT Try.prog wG 300 bV (aY 5) ltV 18 60 (sV m g nc fi fb ls fr nm fm ng gi gb gl gr k) (.exit 0 ⟨[],[]⟩)) (.go 6 .nil):=ay (((not (ai (m:Int) (k:Int)))=false∧(True∧True)))
theorem fV1  : VC (fromD Try.prog wG 300 60 [1,0,1,0] (Lv.res ltV 18 (fV (aY 5) ltV 60 (.exit 0 ⟨[],[]⟩)) (.exit 0 ⟨[],[]⟩)) (.bool true)) .nil:=ay ((true=true))
theorem fV2  : VC (fromD Try.prog wG 300 60 [1,0,1,0] (Lv.res ltV 18 (fV (aY 5) ltV 60 (.ret ⟨[.bool false],[]⟩)) (.ret ⟨[.bool false],[]⟩)) (.bool false)) .nil:=ay ((false=false))
def pV (m:Nat) (g:Nat→Nat→Int) (nc:Nat) (fi:Nat→Nat→Int) (fb:Nat→Nat→Bool) (ls:Nat→Nat→Nat) (fr:Nat→Nat→Nat→Nat→Int) (nm:Nat) (fm:Nat→Nat→Int) (ng:Nat) (gi:Nat→Nat→Int) (gb:Nat→Nat→Bool) (gl:Nat→Nat→Nat) (gr:Nat→Nat→Nat→Nat→Int):Nat→Bool:=fun k=>mvB nc (g k 0) (g k 1) (g k 2) (g k 3)
theorem gV (m:Nat) (g:Nat→Nat→Int) (nc:Nat) (fi:Nat→Nat→Int) (fb:Nat→Nat→Bool) (ls:Nat→Nat→Nat) (fr:Nat→Nat→Nat→Nat→Int) (nm:Nat) (fm:Nat→Nat→Int) (ng:Nat) (gi:Nat→Nat→Int) (gb:Nat→Nat→Bool) (gl:Nat→Nat→Nat) (gr:Nat→Nat→Nat→Nat→Int) (c3:nc≤3) (hb:m≤1000000):∃ v' H',SpecCall Try.prog 60 (enc [.one (.sl 4 m g),.cl 57 [.rw [.r 2,.i,.i,.i,.i] nc fi fb ls fr,.sl 4 nm fm,.rw [.i,.i,.i,.i,.b] ng gi gb gl gr]] 0) (aY (wH [.one (.sl 4 m g),.cl 57 [.rw [.r 2,.i,.i,.i,.i] nc fi fb ls fr,.sl 4 nm fm,.rw [.i,.i,.i,.i,.b] ng gi gb gl gr]] 0+1)) v' H'∧bC v' (.bool (dP (pV m g nc fi fb ls fr nm fm ng gi gb gl gr) m)):=by
 rcases fZ (pV m g nc fi fb ls fr nm fm ng gi gb gl gr) m with h | ⟨N,h1,h2,h3⟩
 ·have e:dP (pV m g nc fi fb ls fr nm fm ng gi gb gl gr) m=true:=bu h
  rw [e]
  exact dn au dK (das:=[.one (.sl 4 m g),.cl 57 [.rw [.r 2,.i,.i,.i,.i] nc fi fb ls fr,.sl 4 nm fm,.rw [.i,.i,.i,.i,.b] ng gi gb gl gr]]) (lv := .exit 0 ⟨[],[]⟩) (by kernel_rfl) (by kernel_rfl) (eV m g nc fi fb ls fr nm fm ng gi gb gl gr).ok (bF (body:=bV) (fun _ e=>by cases e) m (sV m g nc fi fb ls fr nm fm ng gi gb gl gr) (fun k hk =>
   aI au dK (rV1 m g nc fi fb ls fr nm fm ng gi gb gl gr k c3 hk hb (h k hk)).ok (by kernel_rfl) (by kernel_rfl)) (aI au dK (rV3 m g nc fi fb ls fr nm fm ng gi gb gl gr m (by omega)).ok (by kernel_rfl) (by kernel_rfl))) fV1.ok
 ·have e:dP (pV m g nc fi fb ls fr nm fm ng gi gb gl gr) m=false:=kS h1 h3
  rw [e]
  exact dn au dK (das:=[.one (.sl 4 m g),.cl 57 [.rw [.r 2,.i,.i,.i,.i] nc fi fb ls fr,.sl 4 nm fm,.rw [.i,.i,.i,.i,.b] ng gi gb gl gr]]) (lv := .ret ⟨[.bool false],[]⟩) (by kernel_rfl) (by kernel_rfl) (eV m g nc fi fb ls fr nm fm ng gi gb gl gr).ok (bF (body:=bV) (fun _ e=>by cases e) N (sV m g nc fi fb ls fr nm fm ng gi gb gl gr) (fun k hk =>
   aI au dK (rV1 m g nc fi fb ls fr nm fm ng gi gb gl gr k c3 (by omega) hb (h2 k hk)).ok (by kernel_rfl) (by kernel_rfl)) (aI au dK (rV2 m g nc fi fb ls fr nm fm ng gi gb gl gr N c3 h1 hb h3).ok (by kernel_rfl) (by kernel_rfl))) fV2.ok
def ltG:LT:=⟨[1,7,8,9],[],[4],5⟩
def sG (m:Nat) (xi:Nat→Nat→Int) (xb:Nat→Nat→Bool) (xl:Nat→Nat→Nat) (xr:Nat→Nat→Nat→Nat→Int) (nc:Nat) (fi:Nat→Nat→Int) (fb:Nat→Nat→Bool) (ls:Nat→Nat→Nat) (fr:Nat→Nat→Nat→Nat→Int) (nm:Nat) (fm:Nat→Nat→Int) (ng:Nat) (gi:Nat→Nat→Int) (gb:Nat→Nat→Bool) (gl:Nat→Nat→Nat) (gr:Nat→Nat→Nat→Nat→Int) (k:Nat):LS:=⟨[.func 58 [.agg 3 (T.setL .lf 0 [.fz true 1 (ah 1 [.r 2,.i,.i,.i,.i] fi fb ls fr) nc 5,.fz true 2 (ae .i64 fm) nm 4,.fz true 3 (ah 3 [.i,.i,.i,.i,.b] gi gb gl gr) ng 5])] [],.fz true 0 (ah 0 [.i,.i,.i,.i,.b] xi xb xl xr) m 5,.int .i64 m,.int .i64 k],[]⟩
def bG:Code:=sub [1,0,1,0,0] (dV Try.prog 61)
theorem eG (m:Nat) (xi:Nat→Nat→Int) (xb:Nat→Nat→Bool) (xl:Nat→Nat→Nat) (xr:Nat→Nat→Nat→Nat→Int) (nc:Nat) (fi:Nat→Nat→Int) (fb:Nat→Nat→Bool) (ls:Nat→Nat→Nat) (fr:Nat→Nat→Nat→Nat→Int) (nm:Nat) (fm:Nat→Nat→Int) (ng:Nat) (gi:Nat→Nat→Int) (gb:Nat→Nat→Bool) (gl:Nat→Nat→Nat) (gr:Nat→Nat→Nat→Nat→Int):VC (xn Try.prog wG 300 61 [1,0,1,0] [.one (.rw [.i,.i,.i,.i,.b] m xi xb xl xr),.cl 58 [.rw [.r 2,.i,.i,.i,.i] nc fi fb ls fr,.sl 4 nm fm,.rw [.i,.i,.i,.i,.b] ng gi gb gl gr]] (aY 5) ltG 18 60 (sG m xi xb xl xr nc fi fb ls fr nm fm ng gi gb gl gr 0)) .nil:=ay ((True∧((((V.func 58
 [V.agg
  (eY
   [D0.rw [CK.r 2,CK.i,CK.i,CK.i,CK.i] nc fi fb ls fr,D0.sl 4 nm fm,
    D0.rw [CK.i,CK.i,CK.i,CK.i,CK.b] ng gi gb gl gr])
  (T.lf.setL 0
   (eH
    [D0.rw [CK.r 2,CK.i,CK.i,CK.i,CK.i] nc fi fb ls fr,D0.sl 4 nm fm,
     D0.rw [CK.i,CK.i,CK.i,CK.i,CK.b] ng gi gb gl gr]
    (nxD (DA.one (D0.rw [CK.i,CK.i,CK.i,CK.i,CK.b] m xi xb xl xr)) 0)))]
 []:V)=V.func 58
 [V.agg 3
  (T.lf.setL 0
   [V.fz true 1 (ah 1 [CK.r 2,CK.i,CK.i,CK.i,CK.i] fi fb ls fr) nc 5,
    V.fz true 2 (ae .i64 fm) nm 4,
    V.fz true 3 (ah 3 [CK.i,CK.i,CK.i,CK.i,CK.b] gi gb gl gr) ng 5])]
 [])∧((((V.fz true 0 (ah 0 [.i,.i,.i,.i,.b] xi xb xl xr) m 5):V)=(V.fz true 0 (ah 0 [.i,.i,.i,.i,.b] xi xb xl xr) m 5))∧(((((m:Nat):Int):Int)=((m:Nat):Int))∧((((0):Int)=(0))∧True))))∧True)))
theorem rG1 (m:Nat) (xi:Nat→Nat→Int) (xb:Nat→Nat→Bool) (xl:Nat→Nat→Nat) (xr:Nat→Nat→Nat→Nat→Int) (nc:Nat) (fi:Nat→Nat→Int) (fb:Nat→Nat→Bool) (ls:Nat→Nat→Nat) (fr:Nat→Nat→Nat→Nat→Int) (nm:Nat) (fm:Nat→Nat→Int) (ng:Nat) (gi:Nat→Nat→Int) (gb:Nat→Nat→Bool) (gl:Nat→Nat→Nat) (gr:Nat→Nat→Nat→Nat→Int) (k:Nat) (c3:nc≤3) (c4:nm≤4) (c5:lnB nc (fun i=>ls i 0)=true) (h1:k<m) (h2:m≤1000000) (h3:ggB nc (fun i=>ls i 0) (fun i=>fr i 0) nm (xi k 0) (xi k 1) (xi k 2) (xi k 3)=true):VC (aT Try.prog wG 300 bG (aY 5) ltG 18 60 (sG m xi xb xl xr nc fi fb ls fr nm fm ng gi gb gl gr k) (.next (sG m xi xb xl xr nc fi fb ls fr nm fm ng gi gb gl gr (k+1)))) (.go 1429 .nil):=ay (((not (ai (m:Int) (k:Int)))=true∧((Nat.blt k m)=true∧((cond (cond (cond (aF 1 (ah 1 [.r 2,.i,.i,.i,.i] fi fb ls fr) [.r 2,.i,.i,.i,.i] nc 5) (cond (aO .i64 (ae .i64 fm) nm 4) (cond (aF 3 (ah 3 [.i,.i,.i,.i,.b] gi gb gl gr) [.i,.i,.i,.i,.b] ng 5) true false) false) false) true false) (cond (Nat.ble nc 3) (cond (Nat.ble nm 4) (lnB nc (fun i=>ls i 0)) false) false) false)=true∧((not (ggB nc (fun i=>ls i 0) (fun i=>fr i 0) nm (xi k 0) (xi k 1) (xi k 2) (xi k 3)))=false∧((small ((k:Int)+1))=true∧((((V.func 58
 [V.agg 3
  (T.lf.setL 0
   [V.fz true 1 (ah 1 [CK.r 2,CK.i,CK.i,CK.i,CK.i] fi fb ls fr) nc 5,
    V.fz true 2 (ae .i64 fm) nm 4,
    V.fz true 3 (ah 3 [CK.i,CK.i,CK.i,CK.i,CK.b] gi gb gl gr) ng 5])]
 []:V)=V.func 58
 [V.agg 3
  (T.lf.setL 0
   [V.fz true 1 (ah 1 [CK.r 2,CK.i,CK.i,CK.i,CK.i] fi fb ls fr) nc 5,
    V.fz true 2 (ae .i64 fm) nm 4,
    V.fz true 3 (ah 3 [CK.i,CK.i,CK.i,CK.i,CK.b] gi gb gl gr) ng 5])]
 [])∧((((V.fz true 0 (ah 0 [.i,.i,.i,.i,.b] xi xb xl xr) m 5):V)=(V.fz true 0 (ah 0 [.i,.i,.i,.i,.b] xi xb xl xr) m 5))∧(((((m:Nat):Int):Int)=((m:Nat):Int))∧((((((k:Nat):Int)+(1)):Int)=(((k+1):Nat):Int))∧True))))∧True)))))))
theorem rG2 (m:Nat) (xi:Nat→Nat→Int) (xb:Nat→Nat→Bool) (xl:Nat→Nat→Nat) (xr:Nat→Nat→Nat→Nat→Int) (nc:Nat) (fi:Nat→Nat→Int) (fb:Nat→Nat→Bool) (ls:Nat→Nat→Nat) (fr:Nat→Nat→Nat→Nat→Int) (nm:Nat) (fm:Nat→Nat→Int) (ng:Nat) (gi:Nat→Nat→Int) (gb:Nat→Nat→Bool) (gl:Nat→Nat→Nat) (gr:Nat→Nat→Nat→Nat→Int) (k:Nat) (c3:nc≤3) (c4:nm≤4) (c5:lnB nc (fun i=>ls i 0)=true) (h1:k<m) (h2:m≤1000000) (h3:ggB nc (fun i=>ls i 0) (fun i=>fr i 0) nm (xi k 0) (xi k 1) (xi k 2) (xi k 3)=false):VC (aT Try.prog wG 300 bG (aY 5) ltG 18 60 (sG m xi xb xl xr nc fi fb ls fr nm fm ng gi gb gl gr k) (.ret ⟨[.bool false],[]⟩)) (.go 341 .nil):=ay (((not (ai (m:Int) (k:Int)))=true∧((Nat.blt k m)=true∧((cond (cond (cond (aF 1 (ah 1 [.r 2,.i,.i,.i,.i] fi fb ls fr) [.r 2,.i,.i,.i,.i] nc 5) (cond (aO .i64 (ae .i64 fm) nm 4) (cond (aF 3 (ah 3 [.i,.i,.i,.i,.b] gi gb gl gr) [.i,.i,.i,.i,.b] ng 5) true false) false) false) true false) (cond (Nat.ble nc 3) (cond (Nat.ble nm 4) (lnB nc (fun i=>ls i 0)) false) false) false)=true∧((not (ggB nc (fun i=>ls i 0) (fun i=>fr i 0) nm (xi k 0) (xi k 1) (xi k 2) (xi k 3)))=true∧(((false=false)∧True)∧True))))))
theorem rG3 (m:Nat) (xi:Nat→Nat→Int) (xb:Nat→Nat→Bool) (xl:Nat→Nat→Nat) (xr:Nat→Nat→Nat→Nat→Int) (nc:Nat) (fi:Nat→Nat→Int) (fb:Nat→Nat→Bool) (ls:Nat→Nat→Nat) (fr:Nat→Nat→Nat→Nat→Int) (nm:Nat) (fm:Nat→Nat→Int) (ng:Nat) (gi:Nat→Nat→Int) (gb:Nat→Nat→Bool) (gl:Nat→Nat→Nat) (gr:Nat→Nat→Nat→Nat→Int) (k:Nat) (h1:¬ k<m):VC (aT Try.prog wG 300 bG (aY 5) ltG 18 60 (sG m xi xb xl xr nc fi fb ls fr nm fm ng gi gb gl gr k) (.exit 0 ⟨[],[]⟩)) (.go 6 .nil):=ay (((not (ai (m:Int) (k:Int)))=false∧(True∧True)))
theorem fG1  : VC (fromD Try.prog wG 300 61 [1,0,1,0] (Lv.res ltG 18 (fV (aY 5) ltG 60 (.exit 0 ⟨[],[]⟩)) (.exit 0 ⟨[],[]⟩)) (.bool true)) .nil:=ay ((true=true))
theorem fG2  : VC (fromD Try.prog wG 300 61 [1,0,1,0] (Lv.res ltG 18 (fV (aY 5) ltG 60 (.ret ⟨[.bool false],[]⟩)) (.ret ⟨[.bool false],[]⟩)) (.bool false)) .nil:=ay ((false=false))
def pG (m:Nat) (xi:Nat→Nat→Int) (xb:Nat→Nat→Bool) (xl:Nat→Nat→Nat) (xr:Nat→Nat→Nat→Nat→Int) (nc:Nat) (fi:Nat→Nat→Int) (fb:Nat→Nat→Bool) (ls:Nat→Nat→Nat) (fr:Nat→Nat→Nat→Nat→Int) (nm:Nat) (fm:Nat→Nat→Int) (ng:Nat) (gi:Nat→Nat→Int) (gb:Nat→Nat→Bool) (gl:Nat→Nat→Nat) (gr:Nat→Nat→Nat→Nat→Int):Nat→Bool:=fun k=>ggB nc (fun i=>ls i 0) (fun i=>fr i 0) nm (xi k 0) (xi k 1) (xi k 2) (xi k 3)
theorem gG (m:Nat) (xi:Nat→Nat→Int) (xb:Nat→Nat→Bool) (xl:Nat→Nat→Nat) (xr:Nat→Nat→Nat→Nat→Int) (nc:Nat) (fi:Nat→Nat→Int) (fb:Nat→Nat→Bool) (ls:Nat→Nat→Nat) (fr:Nat→Nat→Nat→Nat→Int) (nm:Nat) (fm:Nat→Nat→Int) (ng:Nat) (gi:Nat→Nat→Int) (gb:Nat→Nat→Bool) (gl:Nat→Nat→Nat) (gr:Nat→Nat→Nat→Nat→Int) (c3:nc≤3) (c4:nm≤4) (c5:lnB nc (fun i=>ls i 0)=true) (hb:m≤1000000):∃ v' H',SpecCall Try.prog 61 (enc [.one (.rw [.i,.i,.i,.i,.b] m xi xb xl xr),.cl 58 [.rw [.r 2,.i,.i,.i,.i] nc fi fb ls fr,.sl 4 nm fm,.rw [.i,.i,.i,.i,.b] ng gi gb gl gr]] 0) (aY (wH [.one (.rw [.i,.i,.i,.i,.b] m xi xb xl xr),.cl 58 [.rw [.r 2,.i,.i,.i,.i] nc fi fb ls fr,.sl 4 nm fm,.rw [.i,.i,.i,.i,.b] ng gi gb gl gr]] 0+1)) v' H'∧bC v' (.bool (dP (pG m xi xb xl xr nc fi fb ls fr nm fm ng gi gb gl gr) m)):=by
 rcases fZ (pG m xi xb xl xr nc fi fb ls fr nm fm ng gi gb gl gr) m with h | ⟨N,h1,h2,h3⟩
 ·have e:dP (pG m xi xb xl xr nc fi fb ls fr nm fm ng gi gb gl gr) m=true:=bu h
  rw [e]
  exact dn au dK (das:=[.one (.rw [.i,.i,.i,.i,.b] m xi xb xl xr),.cl 58 [.rw [.r 2,.i,.i,.i,.i] nc fi fb ls fr,.sl 4 nm fm,.rw [.i,.i,.i,.i,.b] ng gi gb gl gr]]) (lv := .exit 0 ⟨[],[]⟩) (by kernel_rfl) (by kernel_rfl) (eG m xi xb xl xr nc fi fb ls fr nm fm ng gi gb gl gr).ok (bF (body:=bG) (fun _ e=>by cases e) m (sG m xi xb xl xr nc fi fb ls fr nm fm ng gi gb gl gr) (fun k hk =>
   aI au dK (rG1 m xi xb xl xr nc fi fb ls fr nm fm ng gi gb gl gr k c3 c4 c5 hk hb (h k hk)).ok (by kernel_rfl) (by kernel_rfl)) (aI au dK (rG3 m xi xb xl xr nc fi fb ls fr nm fm ng gi gb gl gr m (by omega)).ok (by kernel_rfl) (by kernel_rfl))) fG1.ok
 ·have e:dP (pG m xi xb xl xr nc fi fb ls fr nm fm ng gi gb gl gr) m=false:=kS h1 h3
  rw [e]
  exact dn au dK (das:=[.one (.rw [.i,.i,.i,.i,.b] m xi xb xl xr),.cl 58 [.rw [.r 2,.i,.i,.i,.i] nc fi fb ls fr,.sl 4 nm fm,.rw [.i,.i,.i,.i,.b] ng gi gb gl gr]]) (lv := .ret ⟨[.bool false],[]⟩) (by kernel_rfl) (by kernel_rfl) (eG m xi xb xl xr nc fi fb ls fr nm fm ng gi gb gl gr).ok (bF (body:=bG) (fun _ e=>by cases e) N (sG m xi xb xl xr nc fi fb ls fr nm fm ng gi gb gl gr) (fun k hk =>
   aI au dK (rG1 m xi xb xl xr nc fi fb ls fr nm fm ng gi gb gl gr k c3 c4 c5 (by omega) hb (h2 k hk)).ok (by kernel_rfl) (by kernel_rfl)) (aI au dK (rG2 m xi xb xl xr nc fi fb ls fr nm fm ng gi gb gl gr N c3 c4 c5 h1 hb h3).ok (by kernel_rfl) (by kernel_rfl))) fG2.ok
def ltK:LT:=⟨[1,7,8,9],[],[4],2⟩
def sK (nc:Nat) (fi:Nat→Nat→Int) (fb:Nat→Nat→Bool) (ls:Nat→Nat→Nat) (fr:Nat→Nat→Nat→Nat→Int) (k:Nat):LS:=⟨[.func 59 [] [],.fz true 0 (ah 0 [.r 2,.i,.i,.i,.i] fi fb ls fr) nc 5,.int .i64 nc,.int .i64 k],[]⟩
def bK:Code:=sub [1,0,1,0,0] (dV Try.prog 56)
theorem eK (nc:Nat) (fi:Nat→Nat→Int) (fb:Nat→Nat→Bool) (ls:Nat→Nat→Nat) (fr:Nat→Nat→Nat→Nat→Int):VC (xn Try.prog wG 300 56 [1,0,1,0] [.one (.rw [.r 2,.i,.i,.i,.i] nc fi fb ls fr),.fn 59] (aY 2) ltK 18 60 (sK nc fi fb ls fr 0)) .nil:=ay ((True∧((((V.func 59 [] []:V)=V.func 59 [] [])∧((((V.fz true 0 (ah 0 [.r 2,.i,.i,.i,.i] fi fb ls fr) nc 5):V)=(V.fz true 0 (ah 0 [.r 2,.i,.i,.i,.i] fi fb ls fr) nc 5))∧((((nc:Int):Int)=(nc:Int))∧((((0):Int)=0)∧True))))∧True)))
theorem rK1 (nc:Nat) (fi:Nat→Nat→Int) (fb:Nat→Nat→Bool) (ls:Nat→Nat→Nat) (fr:Nat→Nat→Nat→Nat→Int) (k:Nat) (c5:ls k 0≤5) (h1:k<nc) (h2:nc≤1000000) (h3:kaB (ls k 0) (fr k 0) (fi k 1) (fi k 2) (fi k 3) (fi k 4)=true):VC (aT Try.prog wG 300 bK (aY 2) ltK 18 60 (sK nc fi fb ls fr k) (.next (sK nc fi fb ls fr (k+1)))) (.go 1429 .nil):=ay (((not (ai (nc:Int) (k:Int)))=true∧((Nat.blt k nc)=true∧((cond (cond (cond (aO .i64 (ae .i64 (fr k 0)) (ls k 0) 2) true false) true false) (Nat.ble (ls k 0) 5) false)=true∧((not (kaB (ls k 0) (fr k 0) (fi k 1) (fi k 2) (fi k 3) (fi k 4)))=false∧((small ((k:Int)+1))=true∧((((V.func 59 [] []:V)=V.func 59 [] [])∧((((V.fz true 0 (ah 0 [.r 2,.i,.i,.i,.i] fi fb ls fr) nc 5):V)=(V.fz true 0 (ah 0 [.r 2,.i,.i,.i,.i] fi fb ls fr) nc 5))∧((((nc:Int):Int)=(nc:Int))∧(((((k:Int)+1):Int)=(((k+1):Nat):Int))∧True))))∧True)))))))
theorem rK2 (nc:Nat) (fi:Nat→Nat→Int) (fb:Nat→Nat→Bool) (ls:Nat→Nat→Nat) (fr:Nat→Nat→Nat→Nat→Int) (k:Nat) (c5:ls k 0≤5) (h1:k<nc) (h2:nc≤1000000) (h3:kaB (ls k 0) (fr k 0) (fi k 1) (fi k 2) (fi k 3) (fi k 4)=false):VC (aT Try.prog wG 300 bK (aY 2) ltK 18 60 (sK nc fi fb ls fr k) (.ret ⟨[.bool false],[]⟩)) (.go 341 .nil):=ay (((not (ai (nc:Int) (k:Int)))=true∧((Nat.blt k nc)=true∧((cond (cond (cond (aO .i64 (ae .i64 (fr k 0)) (ls k 0) 2) true false) true false) (Nat.ble (ls k 0) 5) false)=true∧((not (kaB (ls k 0) (fr k 0) (fi k 1) (fi k 2) (fi k 3) (fi k 4)))=true∧(((false=false)∧True)∧True))))))
theorem rK3 (nc:Nat) (fi:Nat→Nat→Int) (fb:Nat→Nat→Bool) (ls:Nat→Nat→Nat) (fr:Nat→Nat→Nat→Nat→Int) (k:Nat) (h1:¬ k<nc):VC (aT Try.prog wG 300 bK (aY 2) ltK 18 60 (sK nc fi fb ls fr k) (.exit 0 ⟨[],[]⟩)) (.go 6 .nil):=ay (((not (ai (nc:Int) (k:Int)))=false∧(True∧True)))
theorem fK1  : VC (fromD Try.prog wG 300 56 [1,0,1,0] (Lv.res ltK 18 (fV (aY 2) ltK 60 (.exit 0 ⟨[],[]⟩)) (.exit 0 ⟨[],[]⟩)) (.bool true)) .nil:=ay ((true=true))
theorem fK2  : VC (fromD Try.prog wG 300 56 [1,0,1,0] (Lv.res ltK 18 (fV (aY 2) ltK 60 (.ret ⟨[.bool false],[]⟩)) (.ret ⟨[.bool false],[]⟩)) (.bool false)) .nil:=ay ((false=false))
def pK (nc:Nat) (fi:Nat→Nat→Int) (fb:Nat→Nat→Bool) (ls:Nat→Nat→Nat) (fr:Nat→Nat→Nat→Nat→Int):Nat→Bool:=fun k=>kaB (ls k 0) (fr k 0) (fi k 1) (fi k 2) (fi k 3) (fi k 4)
theorem gK (nc:Nat) (fi:Nat→Nat→Int) (fb:Nat→Nat→Bool) (ls:Nat→Nat→Nat) (fr:Nat→Nat→Nat→Nat→Int) (c5:∀ k,k<nc→ls k 0≤5) (hb:nc≤1000000):∃ v' H',SpecCall Try.prog 56 (enc [.one (.rw [.r 2,.i,.i,.i,.i] nc fi fb ls fr),.fn 59] 0) (aY (wH [.one (.rw [.r 2,.i,.i,.i,.i] nc fi fb ls fr),.fn 59] 0+1)) v' H'∧bC v' (.bool (dP (pK nc fi fb ls fr) nc)):=by
 rcases fZ (pK nc fi fb ls fr) nc with h | ⟨N,h1,h2,h3⟩
 ·have e:dP (pK nc fi fb ls fr) nc=true:=bu h
  rw [e]
  exact dn au dK (das:=[.one (.rw [.r 2,.i,.i,.i,.i] nc fi fb ls fr),.fn 59]) (lv := .exit 0 ⟨[],[]⟩) (by kernel_rfl) (by kernel_rfl) (eK nc fi fb ls fr).ok (bF (body:=bK) (fun _ e=>by cases e) nc (sK nc fi fb ls fr) (fun k hk =>
   aI au dK (rK1 nc fi fb ls fr k (c5 k hk) hk hb (h k hk)).ok (by kernel_rfl) (by kernel_rfl)) (aI au dK (rK3 nc fi fb ls fr nc (by omega)).ok (by kernel_rfl) (by kernel_rfl))) fK1.ok
 ·have e:dP (pK nc fi fb ls fr) nc=false:=kS h1 h3
  rw [e]
  exact dn au dK (das:=[.one (.rw [.r 2,.i,.i,.i,.i] nc fi fb ls fr),.fn 59]) (lv := .ret ⟨[.bool false],[]⟩) (by kernel_rfl) (by kernel_rfl) (eK nc fi fb ls fr).ok (bF (body:=bK) (fun _ e=>by cases e) N (sK nc fi fb ls fr) (fun k hk =>
   aI au dK (rK1 nc fi fb ls fr k (c5 k (by omega)) (by omega) hb (h2 k hk)).ok (by kernel_rfl) (by kernel_rfl)) (aI au dK (rK2 nc fi fb ls fr N (c5 N h1) h1 hb h3).ok (by kernel_rfl) (by kernel_rfl))) fK2.ok
def ltT:LT:=⟨[1,7,8,9],[],[4],2⟩
def sT (nc:Nat) (fi:Nat→Nat→Int) (fb:Nat→Nat→Bool) (ls:Nat→Nat→Nat) (fr:Nat→Nat→Nat→Nat→Int) (k:Nat):LS:=⟨[.func 55 [] [],.fz true 0 (ah 0 [.r 2,.i,.i,.i,.i] fi fb ls fr) nc 5,.int .i64 nc,.int .i64 k],[]⟩
def bT:Code:=sub [1,0,1,0,0] (dV Try.prog 56)
theorem eT (nc:Nat) (fi:Nat→Nat→Int) (fb:Nat→Nat→Bool) (ls:Nat→Nat→Nat) (fr:Nat→Nat→Nat→Nat→Int):VC (xn Try.prog wG 300 56 [1,0,1,0] [.one (.rw [.r 2,.i,.i,.i,.i] nc fi fb ls fr),.fn 55] (aY 2) ltT 18 60 (sT nc fi fb ls fr 0)) .nil:=ay ((True∧((((V.func 55 [] []:V)=V.func 55 [] [])∧((((V.fz true 0 (ah 0 [.r 2,.i,.i,.i,.i] fi fb ls fr) nc 5):V)=(V.fz true 0 (ah 0 [.r 2,.i,.i,.i,.i] fi fb ls fr) nc 5))∧((((nc:Int):Int)=(nc:Int))∧((((0):Int)=0)∧True))))∧True)))
theorem rT1 (nc:Nat) (fi:Nat→Nat→Int) (fb:Nat→Nat→Bool) (ls:Nat→Nat→Nat) (fr:Nat→Nat→Nat→Nat→Int) (k:Nat) (c5:ls k 0≤1000) (h1:k<nc) (h2:nc≤1000000) (h3:ls k 0≤5):VC (aT Try.prog wG 300 bT (aY 2) ltT 18 60 (sT nc fi fb ls fr k) (.next (sT nc fi fb ls fr (k+1)))) (.go 357 .nil):=ay (((not (ai (nc:Int) (k:Int)))=true∧((Nat.blt k nc)=true∧((not (ai (((ls k 0):Nat):Int) 5))=false∧((small ((k:Int)+1))=true∧((((V.func 55 [] []:V)=V.func 55 [] [])∧((((V.fz true 0 (ah 0 [.r 2,.i,.i,.i,.i] fi fb ls fr) nc 5):V)=(V.fz true 0 (ah 0 [.r 2,.i,.i,.i,.i] fi fb ls fr) nc 5))∧((((nc:Int):Int)=(nc:Int))∧(((((k:Int)+1):Int)=(((k+1):Nat):Int))∧True))))∧True))))))
theorem rT2 (nc:Nat) (fi:Nat→Nat→Int) (fb:Nat→Nat→Bool) (ls:Nat→Nat→Nat) (fr:Nat→Nat→Nat→Nat→Int) (k:Nat) (c5:ls k 0≤1000) (h1:k<nc) (h2:nc≤1000000) (h3:¬ ls k 0≤5):VC (aT Try.prog wG 300 bT (aY 2) ltT 18 60 (sT nc fi fb ls fr k) (.ret ⟨[.bool false],[]⟩)) (.go 85 .nil):=ay (((not (ai (nc:Int) (k:Int)))=true∧((Nat.blt k nc)=true∧((not (ai (((ls k 0):Nat):Int) 5))=true∧(((false=false)∧True)∧True)))))
theorem rT3 (nc:Nat) (fi:Nat→Nat→Int) (fb:Nat→Nat→Bool) (ls:Nat→Nat→Nat) (fr:Nat→Nat→Nat→Nat→Int) (k:Nat) (h1:¬ k<nc):VC (aT Try.prog wG 300 bT (aY 2) ltT 18 60 (sT nc fi fb ls fr k) (.exit 0 ⟨[],[]⟩)) (.go 6 .nil):=ay (((not (ai (nc:Int) (k:Int)))=false∧(True∧True)))
theorem fT1  : VC (fromD Try.prog wG 300 56 [1,0,1,0] (Lv.res ltT 18 (fV (aY 2) ltT 60 (.exit 0 ⟨[],[]⟩)) (.exit 0 ⟨[],[]⟩)) (.bool true)) .nil:=ay ((true=true))
theorem fT2  : VC (fromD Try.prog wG 300 56 [1,0,1,0] (Lv.res ltT 18 (fV (aY 2) ltT 60 (.ret ⟨[.bool false],[]⟩)) (.ret ⟨[.bool false],[]⟩)) (.bool false)) .nil:=ay ((false=false))
def pT (nc:Nat) (fi:Nat→Nat→Int) (fb:Nat→Nat→Bool) (ls:Nat→Nat→Nat) (fr:Nat→Nat→Nat→Nat→Int):Nat→Bool:=fun k=>Nat.ble (ls k 0) 5
theorem gT (nc:Nat) (fi:Nat→Nat→Int) (fb:Nat→Nat→Bool) (ls:Nat→Nat→Nat) (fr:Nat→Nat→Nat→Nat→Int) (c5:∀ k,k<nc→ls k 0≤1000) (hb:nc≤1000000):∃ v' H',SpecCall Try.prog 56 (enc [.one (.rw [.r 2,.i,.i,.i,.i] nc fi fb ls fr),.fn 55] 0) (aY (wH [.one (.rw [.r 2,.i,.i,.i,.i] nc fi fb ls fr),.fn 55] 0+1)) v' H'∧bC v' (.bool (dP (pT nc fi fb ls fr) nc)):=by
 rcases fZ (pT nc fi fb ls fr) nc with h | ⟨N,h1,h2,h3⟩
 ·have e:dP (pT nc fi fb ls fr) nc=true:=bu h
  rw [e]
  exact dn au dK (das:=[.one (.rw [.r 2,.i,.i,.i,.i] nc fi fb ls fr),.fn 55]) (lv := .exit 0 ⟨[],[]⟩) (by kernel_rfl) (by kernel_rfl) (eT nc fi fb ls fr).ok (bF (body:=bT) (fun _ e=>by cases e) nc (sT nc fi fb ls fr) (fun k hk =>
   aI au dK (rT1 nc fi fb ls fr k (c5 k hk) hk hb (Nat.le_of_ble_eq_true (h k hk))).ok (by kernel_rfl) (by kernel_rfl)) (aI au dK (rT3 nc fi fb ls fr nc (by omega)).ok (by kernel_rfl) (by kernel_rfl))) fT1.ok
 ·have e:dP (pT nc fi fb ls fr) nc=false:=kS h1 h3
  rw [e]
  exact dn au dK (das:=[.one (.rw [.r 2,.i,.i,.i,.i] nc fi fb ls fr),.fn 55]) (lv := .ret ⟨[.bool false],[]⟩) (by kernel_rfl) (by kernel_rfl) (eT nc fi fb ls fr).ok (bF (body:=bT) (fun _ e=>by cases e) N (sT nc fi fb ls fr) (fun k hk =>
   aI au dK (rT1 nc fi fb ls fr k (c5 k (by omega)) (by omega) hb (Nat.le_of_ble_eq_true (h2 k hk))).ok (by kernel_rfl) (by kernel_rfl)) (aI au dK (rT2 nc fi fb ls fr N (c5 N h1) h1 hb (by have q:=(tZ _ _).mp h3;omega)).ok (by kernel_rfl) (by kernel_rfl))) fT2.ok
end
end Go.Proofs.Ytflblednifbleaa
