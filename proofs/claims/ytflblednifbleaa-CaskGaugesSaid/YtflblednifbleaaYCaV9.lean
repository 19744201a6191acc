/- Casks: contracts: the law's own copy of a cellar, together. -/
import Derived.Test.YtflblednifbleaaYCaV2
import Derived.Test.YtflblednifbleaaYCaV3
import Derived.Test.YtflblednifbleaaYCaV4
import Derived.Test.YtflblednifbleaaYCaV5
import Derived.Test.YtflblednifbleaaYCaV6
import Derived.Test.YtflblednifbleaaYCaV7
import Derived.Test.YtflblednifbleaaYCaV8
set_option linter.all false
set_option linter.unusedSimpArgs false
set_option linter.unusedVariables false
namespace Go.Proofs.Ytflblednifbleaa
namespace CV
open Go Go.Ev
set_option maxRecDepth 1000000
set_option maxHeartbeats 0
noncomputable section
variable (nc:Nat) (fi:Nat→Nat→Int) (fb:Nat→Nat→Bool) (ls:Nat→Nat→Nat) (fr:Nat→Nat→Nat→Nat→Int) (nm:Nat) (fm:Nat→Nat→Int) (ng:Nat) (gi:Nat→Nat→Int) (gb:Nat→Nat→Bool) (gl:Nat→Nat→Nat) (gr:Nat→Nat→Nat→Nat→Int)
theorem inl (nc:Nat) (ls:Nat→Nat→Nat) {i:Nat} (hl:∀ i,i<nc→ls i 0≤8) (h:i<nc):ls i 0=0∨ls i 0=1∨ls i 0=2∨ls i 0=3∨ls i 0=4∨ls i 0=5∨ls i 0=6∨ls i 0=7∨ls i 0=8:=by
 have:=hl i h
 omega
theorem jI0 (hl:∀ i,i<nc→ls i 0≤8) (h:0<nc):JF Try.prog (bi0 nc fi fb ls fr nm fm ng gi gb gl gr) (lI 11) 135 70 (sub [1,0,0,1,0,1,0] cB1) (lN 0 11) (iL nc fi fb ls fr nm fm ng gi gb gl gr 0 11):=by
 rcases inl nc ls hl h with q | q | q | q | q | q | q | q | q
 ·exact aC (k:=11) au aj (by kernel_rfl) (ZK nc fi fb ls fr nm fm ng gi gb gl gr h q)
 ·exact aC (k:=11) au aj (by kernel_rfl) (Yr nc fi fb ls fr nm fm ng gi gb gl gr h q)
 ·exact aC (k:=11) au aj (by kernel_rfl) (YN nc fi fb ls fr nm fm ng gi gb gl gr h q)
 ·exact aC (k:=11) au aj (by kernel_rfl) (ZP nc fi fb ls fr nm fm ng gi gb gl gr h q)
 ·exact aC (k:=11) au aj (by kernel_rfl) (ZH nc fi fb ls fr nm fm ng gi gb gl gr h q)
 ·exact aC (k:=11) au aj (by kernel_rfl) (YO nc fi fb ls fr nm fm ng gi gb gl gr h q)
 ·exact aC (k:=11) au aj (by kernel_rfl) (Yx nc fi fb ls fr nm fm ng gi gb gl gr h q)
 ·exact aC (k:=11) au aj (by kernel_rfl) (ZU nc fi fb ls fr nm fm ng gi gb gl gr h q)
 ·exact aC (k:=11) au aj (by kernel_rfl) (Yo nc fi fb ls fr nm fm ng gi gb gl gr h q)
theorem jI1 (hl:∀ i,i<nc→ls i 0≤8) (h:1<nc):JF Try.prog (bi1 nc fi fb ls fr nm fm ng gi gb gl gr) (lI 76) 135 140 (sub [1,0,0,1,0,1,0] cB1) (lN 1 76) (iL nc fi fb ls fr nm fm ng gi gb gl gr 1 76):=by
 rcases inl nc ls hl h with q | q | q | q | q | q | q | q | q
 ·exact aC (k:=76) au aj (by kernel_rfl) (Zz nc fi fb ls fr nm fm ng gi gb gl gr h q)
 ·exact aC (k:=76) au aj (by kernel_rfl) (Zm nc fi fb ls fr nm fm ng gi gb gl gr h q)
 ·exact aC (k:=76) au aj (by kernel_rfl) (ZX nc fi fb ls fr nm fm ng gi gb gl gr h q)
 ·exact aC (k:=76) au aj (by kernel_rfl) (Za nc fi fb ls fr nm fm ng gi gb gl gr h q)
 ·exact aC (k:=76) au aj (by kernel_rfl) (ZG nc fi fb ls fr nm fm ng gi gb gl gr h q)
 ·exact aC (k:=76) au aj (by kernel_rfl) (Y2 nc fi fb ls fr nm fm ng gi gb gl gr h q)
 ·exact aC (k:=76) au aj (by kernel_rfl) (YH nc fi fb ls fr nm fm ng gi gb gl gr h q)
 ·exact aC (k:=76) au aj (by kernel_rfl) (Yp nc fi fb ls fr nm fm ng gi gb gl gr h q)
 ·exact aC (k:=76) au aj (by kernel_rfl) (Yt nc fi fb ls fr nm fm ng gi gb gl gr h q)
theorem jI2 (hl:∀ i,i<nc→ls i 0≤8) (h:2<nc):JF Try.prog (bi2 nc fi fb ls fr nm fm ng gi gb gl gr) (lI 146) 135 210 (sub [1,0,0,1,0,1,0] cB1) (lN 2 146) (iL nc fi fb ls fr nm fm ng gi gb gl gr 2 146):=by
 rcases inl nc ls hl h with q | q | q | q | q | q | q | q | q
 ·exact aC (k:=146) au aj (by kernel_rfl) (ZE nc fi fb ls fr nm fm ng gi gb gl gr h q)
 ·exact aC (k:=146) au aj (by kernel_rfl) (Yw nc fi fb ls fr nm fm ng gi gb gl gr h q)
 ·exact aC (k:=146) au aj (by kernel_rfl) (in22 nc fi fb ls fr nm fm ng gi gb gl gr h q)
 ·exact aC (k:=146) au aj (by kernel_rfl) (Y4 nc fi fb ls fr nm fm ng gi gb gl gr h q)
 ·exact aC (k:=146) au aj (by kernel_rfl) (in24 nc fi fb ls fr nm fm ng gi gb gl gr h q)
 ·exact aC (k:=146) au aj (by kernel_rfl) (Y0 nc fi fb ls fr nm fm ng gi gb gl gr h q)
 ·exact aC (k:=146) au aj (by kernel_rfl) (ZO nc fi fb ls fr nm fm ng gi gb gl gr h q)
 ·exact aC (k:=146) au aj (by kernel_rfl) (YU nc fi fb ls fr nm fm ng gi gb gl gr h q)
 ·exact aC (k:=146) au aj (by kernel_rfl) (YQ nc fi fb ls fr nm fm ng gi gb gl gr h q)
theorem jI3 (hl:∀ i,i<nc→ls i 0≤8) (h:3<nc):JF Try.prog (bi3 nc fi fb ls fr nm fm ng gi gb gl gr) (lI 216) 135 280 (sub [1,0,0,1,0,1,0] cB1) (lN 3 216) (iL nc fi fb ls fr nm fm ng gi gb gl gr 3 216):=by
 rcases inl nc ls hl h with q | q | q | q | q | q | q | q | q
 ·exact aC (k:=216) au aj (by kernel_rfl) (YB nc fi fb ls fr nm fm ng gi gb gl gr h q)
 ·exact aC (k:=216) au aj (by kernel_rfl) (Yv nc fi fb ls fr nm fm ng gi gb gl gr h q)
 ·exact aC (k:=216) au aj (by kernel_rfl) (ZV nc fi fb ls fr nm fm ng gi gb gl gr h q)
 ·exact aC (k:=216) au aj (by kernel_rfl) (Y8 nc fi fb ls fr nm fm ng gi gb gl gr h q)
 ·exact aC (k:=216) au aj (by kernel_rfl) (ZM nc fi fb ls fr nm fm ng gi gb gl gr h q)
 ·exact aC (k:=216) au aj (by kernel_rfl) (Y6 nc fi fb ls fr nm fm ng gi gb gl gr h q)
 ·exact aC (k:=216) au aj (by kernel_rfl) (Yn nc fi fb ls fr nm fm ng gi gb gl gr h q)
 ·exact aC (k:=216) au aj (by kernel_rfl) (YR nc fi fb ls fr nm fm ng gi gb gl gr h q)
 ·exact aC (k:=216) au aj (by kernel_rfl) (Zv nc fi fb ls fr nm fm ng gi gb gl gr h q)
theorem jI4 (hl:∀ i,i<nc→ls i 0≤8) (h:4<nc):JF Try.prog (bi4 nc fi fb ls fr nm fm ng gi gb gl gr) (lI 286) 135 350 (sub [1,0,0,1,0,1,0] cB1) (lN 4 286) (iL nc fi fb ls fr nm fm ng gi gb gl gr 4 286):=by
 rcases inl nc ls hl h with q | q | q | q | q | q | q | q | q
 ·exact aC (k:=286) au aj (by kernel_rfl) (ZW nc fi fb ls fr nm fm ng gi gb gl gr h q)
 ·exact aC (k:=286) au aj (by kernel_rfl) (ZQ nc fi fb ls fr nm fm ng gi gb gl gr h q)
 ·exact aC (k:=286) au aj (by kernel_rfl) (ZY nc fi fb ls fr nm fm ng gi gb gl gr h q)
 ·exact aC (k:=286) au aj (by kernel_rfl) (Zc nc fi fb ls fr nm fm ng gi gb gl gr h q)
 ·exact aC (k:=286) au aj (by kernel_rfl) (YW nc fi fb ls fr nm fm ng gi gb gl gr h q)
 ·exact aC (k:=286) au aj (by kernel_rfl) (Y7 nc fi fb ls fr nm fm ng gi gb gl gr h q)
 ·exact aC (k:=286) au aj (by kernel_rfl) (Y1 nc fi fb ls fr nm fm ng gi gb gl gr h q)
 ·exact aC (k:=286) au aj (by kernel_rfl) (YP nc fi fb ls fr nm fm ng gi gb gl gr h q)
 ·exact aC (k:=286) au aj (by kernel_rfl) (Yi nc fi fb ls fr nm fm ng gi gb gl gr h q)
theorem jO (h5:nc≤5) (hl:∀ i,i<nc→ls i 0≤8):JF Try.prog (ba0 nc fi fb ls fr nm fm ng gi gb gl gr) lt0 135 500 (sub [1,0] cX1) [.ptr 4 0,.ptr 5 0,.ptr 6 0,.int .i64 0] (fl0 nc fi fb ls fr nm fm ng gi gb gl gr):=by
 have hc:sub [1,0] cX1 = .loop cB1:=by kernel_rfl
 rw [hc]
 refine Vb (k:=6) (by kernel_rfl) ?_
 rcases (show nc=0∨nc=1∨nc=2∨nc=3∨nc=4∨nc=5 by omega) with h | h | h | h | h | h
 ·exact nC (oC au aj (eU _ _ (x0 nc fi fb ls fr nm fm ng gi gb gl gr h).ok))
 ·exact oP au aj (eU _ _ (e0 nc fi fb ls fr nm fm ng gi gb gl gr (by omega)).ok) (jI0 nc fi fb ls fr nm fm ng gi gb gl gr hl (by omega)) (xx0 nc fi fb ls fr nm fm ng gi gb gl gr h)
 ·exact gI au aj (eU _ _ (e0 nc fi fb ls fr nm fm ng gi gb gl gr (by omega)).ok) (jI0 nc fi fb ls fr nm fm ng gi gb gl gr hl (by omega)) (nx0 nc fi fb ls fr nm fm ng gi gb gl gr (by omega)) (fun a H hd=>oP au aj hd (jI1 nc fi fb ls fr nm fm ng gi gb gl gr hl (by omega)) (xx1 nc fi fb ls fr nm fm ng gi gb gl gr h))
 ·exact gI au aj (eU _ _ (e0 nc fi fb ls fr nm fm ng gi gb gl gr (by omega)).ok) (jI0 nc fi fb ls fr nm fm ng gi gb gl gr hl (by omega)) (nx0 nc fi fb ls fr nm fm ng gi gb gl gr (by omega)) (fun a H hd=>gI au aj hd (jI1 nc fi fb ls fr nm fm ng gi gb gl gr hl (by omega)) (nx1 nc fi fb ls fr nm fm ng gi gb gl gr (by omega)) (fun a H hd=>oP au aj hd (jI2 nc fi fb ls fr nm fm ng gi gb gl gr hl (by omega)) (xx2 nc fi fb ls fr nm fm ng gi gb gl gr h)))
 ·exact gI au aj (eU _ _ (e0 nc fi fb ls fr nm fm ng gi gb gl gr (by omega)).ok) (jI0 nc fi fb ls fr nm fm ng gi gb gl gr hl (by omega)) (nx0 nc fi fb ls fr nm fm ng gi gb gl gr (by omega)) (fun a H hd=>gI au aj hd (jI1 nc fi fb ls fr nm fm ng gi gb gl gr hl (by omega)) (nx1 nc fi fb ls fr nm fm ng gi gb gl gr (by omega)) (fun a H hd=>gI au aj hd (jI2 nc fi fb ls fr nm fm ng gi gb gl gr hl (by omega)) (nx2 nc fi fb ls fr nm fm ng gi gb gl gr (by omega)) (fun a H hd=>oP au aj hd (jI3 nc fi fb ls fr nm fm ng gi gb gl gr hl (by omega)) (xx3 nc fi fb ls fr nm fm ng gi gb gl gr h))))
 ·exact gI au aj (eU _ _ (e0 nc fi fb ls fr nm fm ng gi gb gl gr (by omega)).ok) (jI0 nc fi fb ls fr nm fm ng gi gb gl gr hl (by omega)) (nx0 nc fi fb ls fr nm fm ng gi gb gl gr (by omega)) (fun a H hd=>gI au aj hd (jI1 nc fi fb ls fr nm fm ng gi gb gl gr hl (by omega)) (nx1 nc fi fb ls fr nm fm ng gi gb gl gr (by omega)) (fun a H hd=>gI au aj hd (jI2 nc fi fb ls fr nm fm ng gi gb gl gr hl (by omega)) (nx2 nc fi fb ls fr nm fm ng gi gb gl gr (by omega)) (fun a H hd=>gI au aj hd (jI3 nc fi fb ls fr nm fm ng gi gb gl gr hl (by omega)) (nx3 nc fi fb ls fr nm fm ng gi gb gl gr (by omega)) (fun a H hd=>oP au aj hd (jI4 nc fi fb ls fr nm fm ng gi gb gl gr hl (by omega)) (xx4 nc fi fb ls fr nm fm ng gi gb gl gr h)))))
theorem jM (h7:nm≤7):JF Try.prog (bm0 nc fi fb ls fr nm fm ng gi gb gl gr) lt1 135 600 (sub [1,0] cX2) [.ptr 4 0,.ptr 5 0,.ptr 6 0,.int .i64 0] (fl1 nc fi fb ls fr nm fm ng gi gb gl gr):=by
 rcases (show nm=0∨nm=1∨nm=2∨nm=3∨nm=4∨nm=5∨nm=6∨nm=7 by omega) with q | q | q | q | q | q | q | q
 ·exact aC (k:=499) au aj (by kernel_rfl) (mv0 nc fi fb ls fr nm fm ng gi gb gl gr q)
 ·exact aC (k:=499) au aj (by kernel_rfl) (mv1 nc fi fb ls fr nm fm ng gi gb gl gr q)
 ·exact aC (k:=499) au aj (by kernel_rfl) (mv2 nc fi fb ls fr nm fm ng gi gb gl gr q)
 ·exact aC (k:=499) au aj (by kernel_rfl) (mv3 nc fi fb ls fr nm fm ng gi gb gl gr q)
 ·exact aC (k:=499) au aj (by kernel_rfl) (mv4 nc fi fb ls fr nm fm ng gi gb gl gr q)
 ·exact aC (k:=499) au aj (by kernel_rfl) (mv5 nc fi fb ls fr nm fm ng gi gb gl gr q)
 ·exact aC (k:=499) au aj (by kernel_rfl) (mv6 nc fi fb ls fr nm fm ng gi gb gl gr q)
 ·exact aC (k:=499) au aj (by kernel_rfl) (mv7 nc fi fb ls fr nm fm ng gi gb gl gr q)
theorem jG (h9:ng≤9):JF Try.prog (bg0 nc fi fb ls fr nm fm ng gi gb gl gr) lt2 135 760 (sub [1,0] cX3) [.ptr 4 0,.ptr 5 0,.ptr 6 0,.int .i64 0] (fl2 nc fi fb ls fr nm fm ng gi gb gl gr):=by
 rcases (show ng=0∨ng=1∨ng=2∨ng=3∨ng=4∨ng=5∨ng=6∨ng=7∨ng=8∨ng=9 by omega) with q | q | q | q | q | q | q | q | q | q
 ·exact aC (k:=599) au aj (by kernel_rfl) (gg0 nc fi fb ls fr nm fm ng gi gb gl gr q)
 ·exact aC (k:=599) au aj (by kernel_rfl) (gg1 nc fi fb ls fr nm fm ng gi gb gl gr q)
 ·exact aC (k:=599) au aj (by kernel_rfl) (gg2 nc fi fb ls fr nm fm ng gi gb gl gr q)
 ·exact aC (k:=599) au aj (by kernel_rfl) (gg3 nc fi fb ls fr nm fm ng gi gb gl gr q)
 ·exact aC (k:=599) au aj (by kernel_rfl) (gg4 nc fi fb ls fr nm fm ng gi gb gl gr q)
 ·exact aC (k:=599) au aj (by kernel_rfl) (gg5 nc fi fb ls fr nm fm ng gi gb gl gr q)
 ·exact aC (k:=599) au aj (by kernel_rfl) (gg6 nc fi fb ls fr nm fm ng gi gb gl gr q)
 ·exact aC (k:=599) au aj (by kernel_rfl) (gg7 nc fi fb ls fr nm fm ng gi gb gl gr q)
 ·exact aC (k:=599) au aj (by kernel_rfl) (gg8 nc fi fb ls fr nm fm ng gi gb gl gr q)
 ·exact aC (k:=599) au aj (by kernel_rfl) (gg9 nc fi fb ls fr nm fm ng gi gb gl gr q)
def DX:Nw:=fun das=>match das with | [.st [.rw [.r 2,.i,.i,.i,.i] nc fi fb ls fr,.sl 4 nm fm,.rw [.i,.i,.i,.i,.b] ng gi gb gl gr]]=>some (dU nc (fun i=>ls i 0) nm ng,(.one (.ag [.new (.rw [.r 2,.i,.i,.i,.i] nc fi fb ls fr),.new (.sl 4 nm fm),.new (.rw [.i,.i,.i,.i,.b] ng gi gb gl gr)]))) | _=>none
theorem th_get (nc:Nat) (fi:Nat→Nat→Int) (fb:Nat→Nat→Bool) (ls:Nat→Nat→Nat) (fr:Nat→Nat→Nat→Nat→Int) (nm:Nat) (fm:Nat→Nat→Int) (ng:Nat) (gi:Nat→Nat→Int) (gb:Nat→Nat→Bool) (gl:Nat→Nat→Nat) (gr:Nat→Nat→Nat→Nat→Int) (h:dU nc (fun i=>ls i 0) nm ng=true):nc≤5∧nm≤7∧ng≤9∧∀ i,i<nc→ls i 0≤8:=by
 obtain ⟨h1,h⟩:=ax h
 obtain ⟨h2,h⟩:=ax h
 obtain ⟨h3,h4⟩:=ax h
 have h2:=Nat.le_of_ble_eq_true h2
 refine ⟨h2,Nat.le_of_ble_eq_true h3,Nat.le_of_ble_eq_true h4,fun i hi=>?_⟩
 obtain ⟨_,_,e⟩:=QW nc
 have:=aQ h1 i (by omega)
 exact Nat.le_of_ble_eq_true this
theorem conCe:UK Try.prog 8 DX:=by
 intro das s hv
 unfold DX at hv
 split at hv
 ·rename_i nc fi fb ls fr nm fm ng gi gb gl gr
  injection hv with hv
  injection hv with hv1 hv2
  obtain ⟨h5,h7,h9,hl⟩:=th_get nc fi fb ls fr nm fm ng gi gb gl gr hv1
  subst hv2
  refine LK (by kernel_rfl) ?_
  exact qY au aj (x:=cX1) (rest:=cR1) (by kernel_rfl) (fun _ _=>rfl) (eU _ _ (s0 nc fi fb ls fr nm fm ng gi gb gl gr).ok) (jO nc fi fb ls fr nm fm ng gi gb gl gr h5 hl) (s1 nc fi fb ls fr nm fm ng gi gb gl gr) (fun a H hd =>
   qY au aj (x:=cX2) (rest:=cR2) (by kernel_rfl) (fun _ _=>rfl) hd (jM nc fi fb ls fr nm fm ng gi gb gl gr h7) (s2 nc fi fb ls fr nm fm ng gi gb gl gr) (fun a H hd =>
    qY au aj (x:=cX3) (rest:=cR3) (by kernel_rfl) (fun _ _=>rfl) hd (jG nc fi fb ls fr nm fm ng gi gb gl gr h9) (s3 nc fi fb ls fr nm fm ng gi gb gl gr) (fun a H hd=>oC au aj hd)))
 ·cases hv
end
end CV
end Go.Proofs.Ytflblednifbleaa
