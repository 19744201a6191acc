/- HeatMixture: for every input the law returns true: a mixture is at least as warm as the Lo of some portion, and at most as warm as the Hi of some one; in another order of the portions, or with a portion divided in two, it is the same. No condition. -/
import Derived.Test.YthakjbbhbnhmeaaRows
import Derived.WalkKit
import Derived.Test.YthakjbbhbnhmeaaYHtX3
import Derived.Test.YthakjbbhbnhmeaaYHtX4
import Derived.Test.YthakjbbhbnhmeaaYHtX5
import Derived.Test.YthakjbbhbnhmeaaYHtX6
import Derived.Test.YthakjbbhbnhmeaaYHtX7
import Derived.Test.YthakjbbhbnhmeaaYHtArg
import Derived.Test.YthakjbbhbnhmeaaYEd
set_option linter.all false
set_option linter.unusedSimpArgs false
set_option linter.unusedVariables false
namespace Go.Proofs.Ythakjbbhbnhmeaa
namespace MX
open Go Go.Ev Go.ChangeShapes Go.WideShapes Go.ChangeAt Go.RowKit
set_option maxRecDepth 1000000
noncomputable section
def Q4:Val:=fun das=>match das with
 | [.one (.sl 3 m g),.one (.i .u8 n1),.one (.i .u8 n2),.one (.i .u8 n3)]=>some (decide (0≤n1∧n1≤255∧0≤n2∧n2≤255∧0≤n3∧n3≤255),.bool true)
 | _=>none
theorem Zx {g:Nat→Nat→Int} (h:∀ k,k<1→1≤g k 0∧g k 0≤1000∧0≤g k 1∧g k 1≤g k 2∧g k 2≤200):mxE (au [g 0 0,g 0 1,g 0 2] 3) 1=0∧mxL (au [g 0 0,g 0 1,g 0 2] 3) 1=mxL g 1∧mxH (au [g 0 0,g 0 1,g 0 2] 3) 1=mxH g 1:=by
 have e:mxE (au [g 0 0,g 0 1,g 0 2] 3) 1=0:=aI (by omega) (by omega) fun j hj=>by
  have hc:j=0:=by omega
  rcases hc with rfl
  ·exact h 0 (by omega)
 refine ⟨e,bi (aI (by omega) (by omega) h) e (aK ?_ ?_) (aK ?_ ?_)⟩
 ·show 0+g 0 0*g 0 1=0+g 0 0*g 0 1
  omega
 ·show 0+g 0 0=0+g 0 0
  omega
 ·show 0+g 0 0*g 0 2=0+g 0 0*g 0 2
  omega
 ·show 0+g 0 0=0+g 0 0
  omega
theorem Zh {g:Nat→Nat→Int} {n:Int} (h:∀ k,k<1→1≤g k 0∧g k 0≤1000∧0≤g k 1∧g k 1≤g k 2∧g k 2≤200) (hn:1≤n∧n≤g 0 0-1):mxE (au [g 0 0-n,g 0 1,g 0 2,n,g 0 1,g 0 2] 3) 2=0∧mxL (au [g 0 0-n,g 0 1,g 0 2,n,g 0 1,g 0 2] 3) 2=mxL g 1∧mxH (au [g 0 0-n,g 0 1,g 0 2,n,g 0 1,g 0 2] 3) 2=mxH g 1:=by
 have hi:=h 0 (by omega)
 have e:mxE (au [g 0 0-n,g 0 1,g 0 2,n,g 0 1,g 0 2] 3) 2=0:=aI (by omega) (by omega) fun j hj=>by
  have hc:j=0∨j=1:=by omega
  rcases hc with rfl | rfl
  ·show 1≤g 0 0-n∧g 0 0-n≤1000∧0≤g 0 1∧g 0 1≤g 0 2∧g 0 2≤200
   omega
  ·show 1≤n∧n≤1000∧0≤g 0 1∧g 0 1≤g 0 2∧g 0 2≤200
   omega
 refine ⟨e,bi (aI (by omega) (by omega) h) e (aK ?_ ?_) (aK ?_ ?_)⟩
 ·show 0+(g 0 0-n)*g 0 1+n*g 0 1=0+g 0 0*g 0 1
  rw [Int.sub_mul]
  omega
 ·show 0+(g 0 0-n)+n=0+g 0 0
  omega
 ·show 0+(g 0 0-n)*g 0 2+n*g 0 2=0+g 0 0*g 0 2
  rw [Int.sub_mul]
  omega
 ·show 0+(g 0 0-n)+n=0+g 0 0
  omega
theorem al1 {g:Nat→Nat→Int} {b w p:Int} (h:∀ k,k<1→1≤g k 0∧g k 0≤1000∧0≤g k 1∧g k 1≤g k 2∧g k 2≤200) (hb:0≤b∧b≤255) (hw:0≤w∧w≤255) (hp:0≤p∧p≤255):lG (.bool true)=true∧∃ v' H',SpecCall Try.prog 4 (enc [.one (.sl 3 1 g),.one (.i .u8 b),.one (.i .u8 w),.one (.i .u8 p)] 0) (aU 2) v' H'∧aP v' (.bool true):=by
 have he:mxE g 1=0:=aI (by omega) (by omega) h
 have eL:mxL g 1=jC g 1 1:=by unfold mxL;rw [(iF _ _).mpr he];rfl
 have eH:mxH g 1=jC g 1 2:=by unfold mxH;rw [(iF _ _).mpr he];rfl
 have hl:g 0 1≤mxL g 1:=by
  rw [eL]
  obtain ⟨j,hj,h⟩:=DJ (by omega) h
  have hc:j=0:=by omega
  rcases hc with rfl<;>(first | exact h | exact .inl h | exact .inr h | exact .inr (.inl h) | exact .inr (.inr h) | exact .inr (.inr (.inl h)) | exact .inr (.inr (.inr h)) | exact .inr (.inr (.inr (.inl h))) | exact .inr (.inr (.inr (.inr h))))
 have hh:mxH g 1≤g 0 2:=by
  rw [eH]
  obtain ⟨j,hj,h⟩:=Es (by omega) h
  have hc:j=0:=by omega
  rcases hc with rfl<;>(first | exact h | exact .inl h | exact .inr h | exact .inr (.inl h) | exact .inr (.inr h) | exact .inr (.inr (.inl h)) | exact .inr (.inr (.inr h)) | exact .inr (.inr (.inr (.inl h))) | exact .inr (.inr (.inr (.inr h))))
 have lh:mxL g 1≤mxH g 1:=by rw [eL,eH];exact Dj (by omega) h
 have hq:1≤g 0 0∧g 0 0≤1000:=by
  have h0:=h 0 (by omega)
  omega
 have kb:=bz (b:=b) (p:=1) (by omega) (by omega)
 have kw:=bz (b:=w) (p:=1) (by omega) (by omega)
 have hk:Int.tmod b 1=0:=by omega
 have hi:Int.tmod w 1=0:=by omega
 rcases hk with hk
 ·obtain ⟨e1,l1,h1⟩:=Zx h
  rcases hi with hi
  ·by_cases hs:g 0 0<2
   ·exact ak az (aN _ g 1) rfl (das:=[.one (.sl 3 1 g),.one (.i .u8 b),.one (.i .u8 w),.one (.i .u8 p)]) (X0 g _ g b w p hb hw hp hk hi ⟨by rw [hi];rfl,by rw [hi];rfl,by rw [hi];rfl⟩ he hl hh lh hq (by exact ⟨rfl,rfl,rfl⟩) e1 l1 h1 hs)
   ·have hs:2≤g 0 0:=by omega
    have tn:=bz (b:=p) (p:=g 0 0-1) (by omega) (by omega)
    have hn:0≤Int.tmod p (g 0 0-1)∧Int.tmod p (g 0 0-1)≤g 0 0-2:=by omega
    obtain ⟨e2,l2,h2⟩:=Zh (n:=1+Int.tmod p (g 0 0-1)) h (by omega)
    exact ak az (aN _ _ 1) rfl (das:=[.one (.sl 3 1 g),.one (.i .u8 b),.one (.i .u8 w),.one (.i .u8 p)]) (WJ g _ _ b w p hb hw hp hk hi ⟨by rw [hi];rfl,by rw [hi];rfl,by rw [hi];rfl⟩ he hl hh lh hq (by exact ⟨rfl,rfl,rfl⟩) e1 l1 h1 hs hn (by rw [hi];rfl) (by exact ⟨rfl,rfl,rfl,rfl,rfl,rfl⟩) e2 l2 h2)
theorem ZE {g:Nat→Nat→Int} (h:∀ k,k<2→1≤g k 0∧g k 0≤1000∧0≤g k 1∧g k 1≤g k 2∧g k 2≤200):mxE (au [g 0 0,g 0 1,g 0 2,g 1 0,g 1 1,g 1 2] 3) 2=0∧mxL (au [g 0 0,g 0 1,g 0 2,g 1 0,g 1 1,g 1 2] 3) 2=mxL g 2∧mxH (au [g 0 0,g 0 1,g 0 2,g 1 0,g 1 1,g 1 2] 3) 2=mxH g 2:=by
 have e:mxE (au [g 0 0,g 0 1,g 0 2,g 1 0,g 1 1,g 1 2] 3) 2=0:=aI (by omega) (by omega) fun j hj=>by
  have hc:j=0∨j=1:=by omega
  rcases hc with rfl | rfl
  ·exact h 0 (by omega)
  ·exact h 1 (by omega)
 refine ⟨e,bi (aI (by omega) (by omega) h) e (aK ?_ ?_) (aK ?_ ?_)⟩
 ·show 0+g 0 0*g 0 1+g 1 0*g 1 1=0+g 0 0*g 0 1+g 1 0*g 1 1
  omega
 ·show 0+g 0 0+g 1 0=0+g 0 0+g 1 0
  omega
 ·show 0+g 0 0*g 0 2+g 1 0*g 1 2=0+g 0 0*g 0 2+g 1 0*g 1 2
  omega
 ·show 0+g 0 0+g 1 0=0+g 0 0+g 1 0
  omega
theorem Zu {g:Nat→Nat→Int} (h:∀ k,k<2→1≤g k 0∧g k 0≤1000∧0≤g k 1∧g k 1≤g k 2∧g k 2≤200):mxE (au [g 1 0,g 1 1,g 1 2,g 0 0,g 0 1,g 0 2] 3) 2=0∧mxL (au [g 1 0,g 1 1,g 1 2,g 0 0,g 0 1,g 0 2] 3) 2=mxL g 2∧mxH (au [g 1 0,g 1 1,g 1 2,g 0 0,g 0 1,g 0 2] 3) 2=mxH g 2:=by
 have e:mxE (au [g 1 0,g 1 1,g 1 2,g 0 0,g 0 1,g 0 2] 3) 2=0:=aI (by omega) (by omega) fun j hj=>by
  have hc:j=0∨j=1:=by omega
  rcases hc with rfl | rfl
  ·exact h 1 (by omega)
  ·exact h 0 (by omega)
 refine ⟨e,bi (aI (by omega) (by omega) h) e (aK ?_ ?_) (aK ?_ ?_)⟩
 ·show 0+g 1 0*g 1 1+g 0 0*g 0 1=0+g 0 0*g 0 1+g 1 0*g 1 1
  omega
 ·show 0+g 1 0+g 0 0=0+g 0 0+g 1 0
  omega
 ·show 0+g 1 0*g 1 2+g 0 0*g 0 2=0+g 0 0*g 0 2+g 1 0*g 1 2
  omega
 ·show 0+g 1 0+g 0 0=0+g 0 0+g 1 0
  omega
theorem Xh {g:Nat→Nat→Int} {n:Int} (h:∀ k,k<2→1≤g k 0∧g k 0≤1000∧0≤g k 1∧g k 1≤g k 2∧g k 2≤200) (hn:1≤n∧n≤g 0 0-1):mxE (au [g 0 0-n,g 0 1,g 0 2,g 1 0,g 1 1,g 1 2,n,g 0 1,g 0 2] 3) 3=0∧mxL (au [g 0 0-n,g 0 1,g 0 2,g 1 0,g 1 1,g 1 2,n,g 0 1,g 0 2] 3) 3=mxL g 2∧mxH (au [g 0 0-n,g 0 1,g 0 2,g 1 0,g 1 1,g 1 2,n,g 0 1,g 0 2] 3) 3=mxH g 2:=by
 have hi:=h 0 (by omega)
 have e:mxE (au [g 0 0-n,g 0 1,g 0 2,g 1 0,g 1 1,g 1 2,n,g 0 1,g 0 2] 3) 3=0:=aI (by omega) (by omega) fun j hj=>by
  have hc:j=0∨j=1∨j=2:=by omega
  rcases hc with rfl | rfl | rfl
  ·show 1≤g 0 0-n∧g 0 0-n≤1000∧0≤g 0 1∧g 0 1≤g 0 2∧g 0 2≤200
   omega
  ·exact h 1 (by omega)
  ·show 1≤n∧n≤1000∧0≤g 0 1∧g 0 1≤g 0 2∧g 0 2≤200
   omega
 refine ⟨e,bi (aI (by omega) (by omega) h) e (aK ?_ ?_) (aK ?_ ?_)⟩
 ·show 0+(g 0 0-n)*g 0 1+g 1 0*g 1 1+n*g 0 1=0+g 0 0*g 0 1+g 1 0*g 1 1
  rw [Int.sub_mul]
  omega
 ·show 0+(g 0 0-n)+g 1 0+n=0+g 0 0+g 1 0
  omega
 ·show 0+(g 0 0-n)*g 0 2+g 1 0*g 1 2+n*g 0 2=0+g 0 0*g 0 2+g 1 0*g 1 2
  rw [Int.sub_mul]
  omega
 ·show 0+(g 0 0-n)+g 1 0+n=0+g 0 0+g 1 0
  omega
theorem Yj {g:Nat→Nat→Int} {n:Int} (h:∀ k,k<2→1≤g k 0∧g k 0≤1000∧0≤g k 1∧g k 1≤g k 2∧g k 2≤200) (hn:1≤n∧n≤g 1 0-1):mxE (au [g 0 0,g 0 1,g 0 2,g 1 0-n,g 1 1,g 1 2,n,g 1 1,g 1 2] 3) 3=0∧mxL (au [g 0 0,g 0 1,g 0 2,g 1 0-n,g 1 1,g 1 2,n,g 1 1,g 1 2] 3) 3=mxL g 2∧mxH (au [g 0 0,g 0 1,g 0 2,g 1 0-n,g 1 1,g 1 2,n,g 1 1,g 1 2] 3) 3=mxH g 2:=by
 have hi:=h 1 (by omega)
 have e:mxE (au [g 0 0,g 0 1,g 0 2,g 1 0-n,g 1 1,g 1 2,n,g 1 1,g 1 2] 3) 3=0:=aI (by omega) (by omega) fun j hj=>by
  have hc:j=0∨j=1∨j=2:=by omega
  rcases hc with rfl | rfl | rfl
  ·exact h 0 (by omega)
  ·show 1≤g 1 0-n∧g 1 0-n≤1000∧0≤g 1 1∧g 1 1≤g 1 2∧g 1 2≤200
   omega
  ·show 1≤n∧n≤1000∧0≤g 1 1∧g 1 1≤g 1 2∧g 1 2≤200
   omega
 refine ⟨e,bi (aI (by omega) (by omega) h) e (aK ?_ ?_) (aK ?_ ?_)⟩
 ·show 0+g 0 0*g 0 1+(g 1 0-n)*g 1 1+n*g 1 1=0+g 0 0*g 0 1+g 1 0*g 1 1
  rw [Int.sub_mul]
  omega
 ·show 0+g 0 0+(g 1 0-n)+n=0+g 0 0+g 1 0
  omega
 ·show 0+g 0 0*g 0 2+(g 1 0-n)*g 1 2+n*g 1 2=0+g 0 0*g 0 2+g 1 0*g 1 2
  rw [Int.sub_mul]
  omega
 ·show 0+g 0 0+(g 1 0-n)+n=0+g 0 0+g 1 0
  omega
theorem al2 {g:Nat→Nat→Int} {b w p:Int} (h:∀ k,k<2→1≤g k 0∧g k 0≤1000∧0≤g k 1∧g k 1≤g k 2∧g k 2≤200) (hb:0≤b∧b≤255) (hw:0≤w∧w≤255) (hp:0≤p∧p≤255):lG (.bool true)=true∧∃ v' H',SpecCall Try.prog 4 (enc [.one (.sl 3 2 g),.one (.i .u8 b),.one (.i .u8 w),.one (.i .u8 p)] 0) (aU 2) v' H'∧aP v' (.bool true):=by
 have he:mxE g 2=0:=aI (by omega) (by omega) h
 have eL:mxL g 2=jC g 2 1:=by unfold mxL;rw [(iF _ _).mpr he];rfl
 have eH:mxH g 2=jC g 2 2:=by unfold mxH;rw [(iF _ _).mpr he];rfl
 have hl:g 0 1≤mxL g 2∨g 1 1≤mxL g 2:=by
  rw [eL]
  obtain ⟨j,hj,h⟩:=DJ (by omega) h
  have hc:j=0∨j=1:=by omega
  rcases hc with rfl | rfl<;>(first | exact h | exact .inl h | exact .inr h | exact .inr (.inl h) | exact .inr (.inr h) | exact .inr (.inr (.inl h)) | exact .inr (.inr (.inr h)) | exact .inr (.inr (.inr (.inl h))) | exact .inr (.inr (.inr (.inr h))))
 have hh:mxH g 2≤g 0 2∨mxH g 2≤g 1 2:=by
  rw [eH]
  obtain ⟨j,hj,h⟩:=Es (by omega) h
  have hc:j=0∨j=1:=by omega
  rcases hc with rfl | rfl<;>(first | exact h | exact .inl h | exact .inr h | exact .inr (.inl h) | exact .inr (.inr h) | exact .inr (.inr (.inl h)) | exact .inr (.inr (.inr h)) | exact .inr (.inr (.inr (.inl h))) | exact .inr (.inr (.inr (.inr h))))
 have lh:mxL g 2≤mxH g 2:=by rw [eL,eH];exact Dj (by omega) h
 have hq:1≤g 0 0∧g 0 0≤1000∧1≤g 1 0∧g 1 0≤1000:=by
  have h0:=h 0 (by omega)
  have h1:=h 1 (by omega)
  omega
 have kb:=bz (b:=b) (p:=2) (by omega) (by omega)
 have kw:=bz (b:=w) (p:=2) (by omega) (by omega)
 have hk:Int.tmod b 2=0∨Int.tmod b 2=1:=by omega
 have hi:Int.tmod w 2=0∨Int.tmod w 2=1:=by omega
 rcases hk with hk | hk
 ·obtain ⟨e1,l1,h1⟩:=ZE h
  rcases hi with hi | hi
  ·by_cases hs:g 0 0<2
   ·exact ak az (aN _ g 2) rfl (das:=[.one (.sl 3 2 g),.one (.i .u8 b),.one (.i .u8 w),.one (.i .u8 p)]) (YN g _ g b w p hb hw hp hk hi ⟨by rw [hi];rfl,by rw [hi];rfl,by rw [hi];rfl⟩ he hl hh lh hq (by exact ⟨rfl,rfl,rfl,rfl,rfl,rfl⟩) e1 l1 h1 hs)
   ·have hs:2≤g 0 0:=by omega
    have tn:=bz (b:=p) (p:=g 0 0-1) (by omega) (by omega)
    have hn:0≤Int.tmod p (g 0 0-1)∧Int.tmod p (g 0 0-1)≤g 0 0-2:=by omega
    obtain ⟨e2,l2,h2⟩:=Xh (n:=1+Int.tmod p (g 0 0-1)) h (by omega)
    exact ak az (aN _ _ 2) rfl (das:=[.one (.sl 3 2 g),.one (.i .u8 b),.one (.i .u8 w),.one (.i .u8 p)]) (XQ g _ _ b w p hb hw hp hk hi ⟨by rw [hi];rfl,by rw [hi];rfl,by rw [hi];rfl⟩ he hl hh lh hq (by exact ⟨rfl,rfl,rfl,rfl,rfl,rfl⟩) e1 l1 h1 hs hn (by rw [hi];rfl) (by exact ⟨rfl,rfl,rfl,rfl,rfl,rfl,rfl,rfl,rfl⟩) e2 l2 h2)
  ·by_cases hs:g 1 0<2
   ·exact ak az (aN _ g 2) rfl (das:=[.one (.sl 3 2 g),.one (.i .u8 b),.one (.i .u8 w),.one (.i .u8 p)]) (XO g _ g b w p hb hw hp hk hi ⟨by rw [hi];rfl,by rw [hi];rfl,by rw [hi];rfl⟩ he hl hh lh hq (by exact ⟨rfl,rfl,rfl,rfl,rfl,rfl⟩) e1 l1 h1 hs)
   ·have hs:2≤g 1 0:=by omega
    have tn:=bz (b:=p) (p:=g 1 0-1) (by omega) (by omega)
    have hn:0≤Int.tmod p (g 1 0-1)∧Int.tmod p (g 1 0-1)≤g 1 0-2:=by omega
    obtain ⟨e2,l2,h2⟩:=Yj (n:=1+Int.tmod p (g 1 0-1)) h (by omega)
    exact ak az (aN _ _ 2) rfl (das:=[.one (.sl 3 2 g),.one (.i .u8 b),.one (.i .u8 w),.one (.i .u8 p)]) (XC g _ _ b w p hb hw hp hk hi ⟨by rw [hi];rfl,by rw [hi];rfl,by rw [hi];rfl⟩ he hl hh lh hq (by exact ⟨rfl,rfl,rfl,rfl,rfl,rfl⟩) e1 l1 h1 hs hn (by rw [hi];rfl) (by exact ⟨rfl,rfl,rfl,rfl,rfl,rfl,rfl,rfl,rfl⟩) e2 l2 h2)
 ·obtain ⟨e1,l1,h1⟩:=Zu h
  rcases hi with hi | hi
  ·by_cases hs:g 0 0<2
   ·exact ak az (aN _ g 2) rfl (das:=[.one (.sl 3 2 g),.one (.i .u8 b),.one (.i .u8 w),.one (.i .u8 p)]) (Yx g _ g b w p hb hw hp hk hi ⟨by rw [hi];rfl,by rw [hi];rfl,by rw [hi];rfl⟩ he hl hh lh hq (by exact ⟨rfl,rfl,rfl,rfl,rfl,rfl⟩) e1 l1 h1 hs)
   ·have hs:2≤g 0 0:=by omega
    have tn:=bz (b:=p) (p:=g 0 0-1) (by omega) (by omega)
    have hn:0≤Int.tmod p (g 0 0-1)∧Int.tmod p (g 0 0-1)≤g 0 0-2:=by omega
    obtain ⟨e2,l2,h2⟩:=Xh (n:=1+Int.tmod p (g 0 0-1)) h (by omega)
    exact ak az (aN _ _ 2) rfl (das:=[.one (.sl 3 2 g),.one (.i .u8 b),.one (.i .u8 w),.one (.i .u8 p)]) (Xx g _ _ b w p hb hw hp hk hi ⟨by rw [hi];rfl,by rw [hi];rfl,by rw [hi];rfl⟩ he hl hh lh hq (by exact ⟨rfl,rfl,rfl,rfl,rfl,rfl⟩) e1 l1 h1 hs hn (by rw [hi];rfl) (by exact ⟨rfl,rfl,rfl,rfl,rfl,rfl,rfl,rfl,rfl⟩) e2 l2 h2)
  ·by_cases hs:g 1 0<2
   ·exact ak az (aN _ g 2) rfl (das:=[.one (.sl 3 2 g),.one (.i .u8 b),.one (.i .u8 w),.one (.i .u8 p)]) (Yh g _ g b w p hb hw hp hk hi ⟨by rw [hi];rfl,by rw [hi];rfl,by rw [hi];rfl⟩ he hl hh lh hq (by exact ⟨rfl,rfl,rfl,rfl,rfl,rfl⟩) e1 l1 h1 hs)
   ·have hs:2≤g 1 0:=by omega
    have tn:=bz (b:=p) (p:=g 1 0-1) (by omega) (by omega)
    have hn:0≤Int.tmod p (g 1 0-1)∧Int.tmod p (g 1 0-1)≤g 1 0-2:=by omega
    obtain ⟨e2,l2,h2⟩:=Yj (n:=1+Int.tmod p (g 1 0-1)) h (by omega)
    exact ak az (aN _ _ 2) rfl (das:=[.one (.sl 3 2 g),.one (.i .u8 b),.one (.i .u8 w),.one (.i .u8 p)]) (XZ g _ _ b w p hb hw hp hk hi ⟨by rw [hi];rfl,by rw [hi];rfl,by rw [hi];rfl⟩ he hl hh lh hq (by exact ⟨rfl,rfl,rfl,rfl,rfl,rfl⟩) e1 l1 h1 hs hn (by rw [hi];rfl) (by exact ⟨rfl,rfl,rfl,rfl,rfl,rfl,rfl,rfl,rfl⟩) e2 l2 h2)
theorem Zl {g:Nat→Nat→Int} (h:∀ k,k<3→1≤g k 0∧g k 0≤1000∧0≤g k 1∧g k 1≤g k 2∧g k 2≤200):mxE (au [g 0 0,g 0 1,g 0 2,g 1 0,g 1 1,g 1 2,g 2 0,g 2 1,g 2 2] 3) 3=0∧mxL (au [g 0 0,g 0 1,g 0 2,g 1 0,g 1 1,g 1 2,g 2 0,g 2 1,g 2 2] 3) 3=mxL g 3∧mxH (au [g 0 0,g 0 1,g 0 2,g 1 0,g 1 1,g 1 2,g 2 0,g 2 1,g 2 2] 3) 3=mxH g 3:=by
 have e:mxE (au [g 0 0,g 0 1,g 0 2,g 1 0,g 1 1,g 1 2,g 2 0,g 2 1,g 2 2] 3) 3=0:=aI (by omega) (by omega) fun j hj=>by
  have hc:j=0∨j=1∨j=2:=by omega
  rcases hc with rfl | rfl | rfl
  ·exact h 0 (by omega)
  ·exact h 1 (by omega)
  ·exact h 2 (by omega)
 refine ⟨e,bi (aI (by omega) (by omega) h) e (aK ?_ ?_) (aK ?_ ?_)⟩
 ·show 0+g 0 0*g 0 1+g 1 0*g 1 1+g 2 0*g 2 1=0+g 0 0*g 0 1+g 1 0*g 1 1+g 2 0*g 2 1
  omega
 ·show 0+g 0 0+g 1 0+g 2 0=0+g 0 0+g 1 0+g 2 0
  omega
 ·show 0+g 0 0*g 0 2+g 1 0*g 1 2+g 2 0*g 2 2=0+g 0 0*g 0 2+g 1 0*g 1 2+g 2 0*g 2 2
  omega
 ·show 0+g 0 0+g 1 0+g 2 0=0+g 0 0+g 1 0+g 2 0
  omega
theorem Y7 {g:Nat→Nat→Int} (h:∀ k,k<3→1≤g k 0∧g k 0≤1000∧0≤g k 1∧g k 1≤g k 2∧g k 2≤200):mxE (au [g 1 0,g 1 1,g 1 2,g 2 0,g 2 1,g 2 2,g 0 0,g 0 1,g 0 2] 3) 3=0∧mxL (au [g 1 0,g 1 1,g 1 2,g 2 0,g 2 1,g 2 2,g 0 0,g 0 1,g 0 2] 3) 3=mxL g 3∧mxH (au [g 1 0,g 1 1,g 1 2,g 2 0,g 2 1,g 2 2,g 0 0,g 0 1,g 0 2] 3) 3=mxH g 3:=by
 have e:mxE (au [g 1 0,g 1 1,g 1 2,g 2 0,g 2 1,g 2 2,g 0 0,g 0 1,g 0 2] 3) 3=0:=aI (by omega) (by omega) fun j hj=>by
  have hc:j=0∨j=1∨j=2:=by omega
  rcases hc with rfl | rfl | rfl
  ·exact h 1 (by omega)
  ·exact h 2 (by omega)
  ·exact h 0 (by omega)
 refine ⟨e,bi (aI (by omega) (by omega) h) e (aK ?_ ?_) (aK ?_ ?_)⟩
 ·show 0+g 1 0*g 1 1+g 2 0*g 2 1+g 0 0*g 0 1=0+g 0 0*g 0 1+g 1 0*g 1 1+g 2 0*g 2 1
  omega
 ·show 0+g 1 0+g 2 0+g 0 0=0+g 0 0+g 1 0+g 2 0
  omega
 ·show 0+g 1 0*g 1 2+g 2 0*g 2 2+g 0 0*g 0 2=0+g 0 0*g 0 2+g 1 0*g 1 2+g 2 0*g 2 2
  omega
 ·show 0+g 1 0+g 2 0+g 0 0=0+g 0 0+g 1 0+g 2 0
  omega
theorem Y3 {g:Nat→Nat→Int} (h:∀ k,k<3→1≤g k 0∧g k 0≤1000∧0≤g k 1∧g k 1≤g k 2∧g k 2≤200):mxE (au [g 2 0,g 2 1,g 2 2,g 0 0,g 0 1,g 0 2,g 1 0,g 1 1,g 1 2] 3) 3=0∧mxL (au [g 2 0,g 2 1,g 2 2,g 0 0,g 0 1,g 0 2,g 1 0,g 1 1,g 1 2] 3) 3=mxL g 3∧mxH (au [g 2 0,g 2 1,g 2 2,g 0 0,g 0 1,g 0 2,g 1 0,g 1 1,g 1 2] 3) 3=mxH g 3:=by
 have e:mxE (au [g 2 0,g 2 1,g 2 2,g 0 0,g 0 1,g 0 2,g 1 0,g 1 1,g 1 2] 3) 3=0:=aI (by omega) (by omega) fun j hj=>by
  have hc:j=0∨j=1∨j=2:=by omega
  rcases hc with rfl | rfl | rfl
  ·exact h 2 (by omega)
  ·exact h 0 (by omega)
  ·exact h 1 (by omega)
 refine ⟨e,bi (aI (by omega) (by omega) h) e (aK ?_ ?_) (aK ?_ ?_)⟩
 ·show 0+g 2 0*g 2 1+g 0 0*g 0 1+g 1 0*g 1 1=0+g 0 0*g 0 1+g 1 0*g 1 1+g 2 0*g 2 1
  omega
 ·show 0+g 2 0+g 0 0+g 1 0=0+g 0 0+g 1 0+g 2 0
  omega
 ·show 0+g 2 0*g 2 2+g 0 0*g 0 2+g 1 0*g 1 2=0+g 0 0*g 0 2+g 1 0*g 1 2+g 2 0*g 2 2
  omega
 ·show 0+g 2 0+g 0 0+g 1 0=0+g 0 0+g 1 0+g 2 0
  omega
theorem Vq {g:Nat→Nat→Int} {n:Int} (h:∀ k,k<3→1≤g k 0∧g k 0≤1000∧0≤g k 1∧g k 1≤g k 2∧g k 2≤200) (hn:1≤n∧n≤g 0 0-1):mxE (au [g 0 0-n,g 0 1,g 0 2,g 1 0,g 1 1,g 1 2,g 2 0,g 2 1,g 2 2,n,g 0 1,g 0 2] 3) 4=0∧mxL (au [g 0 0-n,g 0 1,g 0 2,g 1 0,g 1 1,g 1 2,g 2 0,g 2 1,g 2 2,n,g 0 1,g 0 2] 3) 4=mxL g 3∧mxH (au [g 0 0-n,g 0 1,g 0 2,g 1 0,g 1 1,g 1 2,g 2 0,g 2 1,g 2 2,n,g 0 1,g 0 2] 3) 4=mxH g 3:=by
 have hi:=h 0 (by omega)
 have e:mxE (au [g 0 0-n,g 0 1,g 0 2,g 1 0,g 1 1,g 1 2,g 2 0,g 2 1,g 2 2,n,g 0 1,g 0 2] 3) 4=0:=aI (by omega) (by omega) fun j hj=>by
  have hc:j=0∨j=1∨j=2∨j=3:=by omega
  rcases hc with rfl | rfl | rfl | rfl
  ·show 1≤g 0 0-n∧g 0 0-n≤1000∧0≤g 0 1∧g 0 1≤g 0 2∧g 0 2≤200
   omega
  ·exact h 1 (by omega)
  ·exact h 2 (by omega)
  ·show 1≤n∧n≤1000∧0≤g 0 1∧g 0 1≤g 0 2∧g 0 2≤200
   omega
 refine ⟨e,bi (aI (by omega) (by omega) h) e (aK ?_ ?_) (aK ?_ ?_)⟩
 ·show 0+(g 0 0-n)*g 0 1+g 1 0*g 1 1+g 2 0*g 2 1+n*g 0 1=0+g 0 0*g 0 1+g 1 0*g 1 1+g 2 0*g 2 1
  rw [Int.sub_mul]
  omega
 ·show 0+(g 0 0-n)+g 1 0+g 2 0+n=0+g 0 0+g 1 0+g 2 0
  omega
 ·show 0+(g 0 0-n)*g 0 2+g 1 0*g 1 2+g 2 0*g 2 2+n*g 0 2=0+g 0 0*g 0 2+g 1 0*g 1 2+g 2 0*g 2 2
  rw [Int.sub_mul]
  omega
 ·show 0+(g 0 0-n)+g 1 0+g 2 0+n=0+g 0 0+g 1 0+g 2 0
  omega
theorem Ve {g:Nat→Nat→Int} {n:Int} (h:∀ k,k<3→1≤g k 0∧g k 0≤1000∧0≤g k 1∧g k 1≤g k 2∧g k 2≤200) (hn:1≤n∧n≤g 1 0-1):mxE (au [g 0 0,g 0 1,g 0 2,g 1 0-n,g 1 1,g 1 2,g 2 0,g 2 1,g 2 2,n,g 1 1,g 1 2] 3) 4=0∧mxL (au [g 0 0,g 0 1,g 0 2,g 1 0-n,g 1 1,g 1 2,g 2 0,g 2 1,g 2 2,n,g 1 1,g 1 2] 3) 4=mxL g 3∧mxH (au [g 0 0,g 0 1,g 0 2,g 1 0-n,g 1 1,g 1 2,g 2 0,g 2 1,g 2 2,n,g 1 1,g 1 2] 3) 4=mxH g 3:=by
 have hi:=h 1 (by omega)
 have e:mxE (au [g 0 0,g 0 1,g 0 2,g 1 0-n,g 1 1,g 1 2,g 2 0,g 2 1,g 2 2,n,g 1 1,g 1 2] 3) 4=0:=aI (by omega) (by omega) fun j hj=>by
  have hc:j=0∨j=1∨j=2∨j=3:=by omega
  rcases hc with rfl | rfl | rfl | rfl
  ·exact h 0 (by omega)
  ·show 1≤g 1 0-n∧g 1 0-n≤1000∧0≤g 1 1∧g 1 1≤g 1 2∧g 1 2≤200
   omega
  ·exact h 2 (by omega)
  ·show 1≤n∧n≤1000∧0≤g 1 1∧g 1 1≤g 1 2∧g 1 2≤200
   omega
 refine ⟨e,bi (aI (by omega) (by omega) h) e (aK ?_ ?_) (aK ?_ ?_)⟩
 ·show 0+g 0 0*g 0 1+(g 1 0-n)*g 1 1+g 2 0*g 2 1+n*g 1 1=0+g 0 0*g 0 1+g 1 0*g 1 1+g 2 0*g 2 1
  rw [Int.sub_mul]
  omega
 ·show 0+g 0 0+(g 1 0-n)+g 2 0+n=0+g 0 0+g 1 0+g 2 0
  omega
 ·show 0+g 0 0*g 0 2+(g 1 0-n)*g 1 2+g 2 0*g 2 2+n*g 1 2=0+g 0 0*g 0 2+g 1 0*g 1 2+g 2 0*g 2 2
  rw [Int.sub_mul]
  omega
 ·show 0+g 0 0+(g 1 0-n)+g 2 0+n=0+g 0 0+g 1 0+g 2 0
  omega
theorem VI {g:Nat→Nat→Int} {n:Int} (h:∀ k,k<3→1≤g k 0∧g k 0≤1000∧0≤g k 1∧g k 1≤g k 2∧g k 2≤200) (hn:1≤n∧n≤g 2 0-1):mxE (au [g 0 0,g 0 1,g 0 2,g 1 0,g 1 1,g 1 2,g 2 0-n,g 2 1,g 2 2,n,g 2 1,g 2 2] 3) 4=0∧mxL (au [g 0 0,g 0 1,g 0 2,g 1 0,g 1 1,g 1 2,g 2 0-n,g 2 1,g 2 2,n,g 2 1,g 2 2] 3) 4=mxL g 3∧mxH (au [g 0 0,g 0 1,g 0 2,g 1 0,g 1 1,g 1 2,g 2 0-n,g 2 1,g 2 2,n,g 2 1,g 2 2] 3) 4=mxH g 3:=by
 have hi:=h 2 (by omega)
 have e:mxE (au [g 0 0,g 0 1,g 0 2,g 1 0,g 1 1,g 1 2,g 2 0-n,g 2 1,g 2 2,n,g 2 1,g 2 2] 3) 4=0:=aI (by omega) (by omega) fun j hj=>by
  have hc:j=0∨j=1∨j=2∨j=3:=by omega
  rcases hc with rfl | rfl | rfl | rfl
  ·exact h 0 (by omega)
  ·exact h 1 (by omega)
  ·show 1≤g 2 0-n∧g 2 0-n≤1000∧0≤g 2 1∧g 2 1≤g 2 2∧g 2 2≤200
   omega
  ·show 1≤n∧n≤1000∧0≤g 2 1∧g 2 1≤g 2 2∧g 2 2≤200
   omega
 refine ⟨e,bi (aI (by omega) (by omega) h) e (aK ?_ ?_) (aK ?_ ?_)⟩
 ·show 0+g 0 0*g 0 1+g 1 0*g 1 1+(g 2 0-n)*g 2 1+n*g 2 1=0+g 0 0*g 0 1+g 1 0*g 1 1+g 2 0*g 2 1
  rw [Int.sub_mul]
  omega
 ·show 0+g 0 0+g 1 0+(g 2 0-n)+n=0+g 0 0+g 1 0+g 2 0
  omega
 ·show 0+g 0 0*g 0 2+g 1 0*g 1 2+(g 2 0-n)*g 2 2+n*g 2 2=0+g 0 0*g 0 2+g 1 0*g 1 2+g 2 0*g 2 2
  rw [Int.sub_mul]
  omega
 ·show 0+g 0 0+g 1 0+(g 2 0-n)+n=0+g 0 0+g 1 0+g 2 0
  omega
theorem al3 {g:Nat→Nat→Int} {b w p:Int} (h:∀ k,k<3→1≤g k 0∧g k 0≤1000∧0≤g k 1∧g k 1≤g k 2∧g k 2≤200) (hb:0≤b∧b≤255) (hw:0≤w∧w≤255) (hp:0≤p∧p≤255):lG (.bool true)=true∧∃ v' H',SpecCall Try.prog 4 (enc [.one (.sl 3 3 g),.one (.i .u8 b),.one (.i .u8 w),.one (.i .u8 p)] 0) (aU 2) v' H'∧aP v' (.bool true):=by
 have he:mxE g 3=0:=aI (by omega) (by omega) h
 have eL:mxL g 3=jC g 3 1:=by unfold mxL;rw [(iF _ _).mpr he];rfl
 have eH:mxH g 3=jC g 3 2:=by unfold mxH;rw [(iF _ _).mpr he];rfl
 have hl:g 0 1≤mxL g 3∨g 1 1≤mxL g 3∨g 2 1≤mxL g 3:=by
  rw [eL]
  obtain ⟨j,hj,h⟩:=DJ (by omega) h
  have hc:j=0∨j=1∨j=2:=by omega
  rcases hc with rfl | rfl | rfl<;>(first | exact h | exact .inl h | exact .inr h | exact .inr (.inl h) | exact .inr (.inr h) | exact .inr (.inr (.inl h)) | exact .inr (.inr (.inr h)) | exact .inr (.inr (.inr (.inl h))) | exact .inr (.inr (.inr (.inr h))))
 have hh:mxH g 3≤g 0 2∨mxH g 3≤g 1 2∨mxH g 3≤g 2 2:=by
  rw [eH]
  obtain ⟨j,hj,h⟩:=Es (by omega) h
  have hc:j=0∨j=1∨j=2:=by omega
  rcases hc with rfl | rfl | rfl<;>(first | exact h | exact .inl h | exact .inr h | exact .inr (.inl h) | exact .inr (.inr h) | exact .inr (.inr (.inl h)) | exact .inr (.inr (.inr h)) | exact .inr (.inr (.inr (.inl h))) | exact .inr (.inr (.inr (.inr h))))
 have lh:mxL g 3≤mxH g 3:=by rw [eL,eH];exact Dj (by omega) h
 have hq:1≤g 0 0∧g 0 0≤1000∧1≤g 1 0∧g 1 0≤1000∧1≤g 2 0∧g 2 0≤1000:=by
  have h0:=h 0 (by omega)
  have h1:=h 1 (by omega)
  have h2:=h 2 (by omega)
  omega
 have kb:=bz (b:=b) (p:=3) (by omega) (by omega)
 have kw:=bz (b:=w) (p:=3) (by omega) (by omega)
 have hk:Int.tmod b 3=0∨Int.tmod b 3=1∨Int.tmod b 3=2:=by omega
 have hi:Int.tmod w 3=0∨Int.tmod w 3=1∨Int.tmod w 3=2:=by omega
 rcases hk with hk | hk | hk
 ·obtain ⟨e1,l1,h1⟩:=Zl h
  rcases hi with hi | hi | hi
  ·by_cases hs:g 0 0<2
   ·exact ak az (aN _ g 3) rfl (das:=[.one (.sl 3 3 g),.one (.i .u8 b),.one (.i .u8 w),.one (.i .u8 p)]) (WE g _ g b w p hb hw hp hk hi ⟨by rw [hi];rfl,by rw [hi];rfl,by rw [hi];rfl⟩ he hl hh lh hq (by exact ⟨rfl,rfl,rfl,rfl,rfl,rfl,rfl,rfl,rfl⟩) e1 l1 h1 hs)
   ·have hs:2≤g 0 0:=by omega
    have tn:=bz (b:=p) (p:=g 0 0-1) (by omega) (by omega)
    have hn:0≤Int.tmod p (g 0 0-1)∧Int.tmod p (g 0 0-1)≤g 0 0-2:=by omega
    obtain ⟨e2,l2,h2⟩:=Vq (n:=1+Int.tmod p (g 0 0-1)) h (by omega)
    exact ak az (aN _ _ 3) rfl (das:=[.one (.sl 3 3 g),.one (.i .u8 b),.one (.i .u8 w),.one (.i .u8 p)]) (Yf g _ _ b w p hb hw hp hk hi ⟨by rw [hi];rfl,by rw [hi];rfl,by rw [hi];rfl⟩ he hl hh lh hq (by exact ⟨rfl,rfl,rfl,rfl,rfl,rfl,rfl,rfl,rfl⟩) e1 l1 h1 hs hn (by rw [hi];rfl) (by exact ⟨rfl,rfl,rfl,rfl,rfl,rfl,rfl,rfl,rfl,rfl,rfl,rfl⟩) e2 l2 h2)
  ·by_cases hs:g 1 0<2
   ·exact ak az (aN _ g 3) rfl (das:=[.one (.sl 3 3 g),.one (.i .u8 b),.one (.i .u8 w),.one (.i .u8 p)]) (YE g _ g b w p hb hw hp hk hi ⟨by rw [hi];rfl,by rw [hi];rfl,by rw [hi];rfl⟩ he hl hh lh hq (by exact ⟨rfl,rfl,rfl,rfl,rfl,rfl,rfl,rfl,rfl⟩) e1 l1 h1 hs)
   ·have hs:2≤g 1 0:=by omega
    have tn:=bz (b:=p) (p:=g 1 0-1) (by omega) (by omega)
    have hn:0≤Int.tmod p (g 1 0-1)∧Int.tmod p (g 1 0-1)≤g 1 0-2:=by omega
    obtain ⟨e2,l2,h2⟩:=Ve (n:=1+Int.tmod p (g 1 0-1)) h (by omega)
    exact ak az (aN _ _ 3) rfl (das:=[.one (.sl 3 3 g),.one (.i .u8 b),.one (.i .u8 w),.one (.i .u8 p)]) (Xo g _ _ b w p hb hw hp hk hi ⟨by rw [hi];rfl,by rw [hi];rfl,by rw [hi];rfl⟩ he hl hh lh hq (by exact ⟨rfl,rfl,rfl,rfl,rfl,rfl,rfl,rfl,rfl⟩) e1 l1 h1 hs hn (by rw [hi];rfl) (by exact ⟨rfl,rfl,rfl,rfl,rfl,rfl,rfl,rfl,rfl,rfl,rfl,rfl⟩) e2 l2 h2)
  ·by_cases hs:g 2 0<2
   ·exact ak az (aN _ g 3) rfl (das:=[.one (.sl 3 3 g),.one (.i .u8 b),.one (.i .u8 w),.one (.i .u8 p)]) (Xj g _ g b w p hb hw hp hk hi ⟨by rw [hi];rfl,by rw [hi];rfl,by rw [hi];rfl⟩ he hl hh lh hq (by exact ⟨rfl,rfl,rfl,rfl,rfl,rfl,rfl,rfl,rfl⟩) e1 l1 h1 hs)
   ·have hs:2≤g 2 0:=by omega
    have tn:=bz (b:=p) (p:=g 2 0-1) (by omega) (by omega)
    have hn:0≤Int.tmod p (g 2 0-1)∧Int.tmod p (g 2 0-1)≤g 2 0-2:=by omega
    obtain ⟨e2,l2,h2⟩:=VI (n:=1+Int.tmod p (g 2 0-1)) h (by omega)
    exact ak az (aN _ _ 3) rfl (das:=[.one (.sl 3 3 g),.one (.i .u8 b),.one (.i .u8 w),.one (.i .u8 p)]) (V8 g _ _ b w p hb hw hp hk hi ⟨by rw [hi];rfl,by rw [hi];rfl,by rw [hi];rfl⟩ he hl hh lh hq (by exact ⟨rfl,rfl,rfl,rfl,rfl,rfl,rfl,rfl,rfl⟩) e1 l1 h1 hs hn (by rw [hi];rfl) (by exact ⟨rfl,rfl,rfl,rfl,rfl,rfl,rfl,rfl,rfl,rfl,rfl,rfl⟩) e2 l2 h2)
 ·obtain ⟨e1,l1,h1⟩:=Y7 h
  rcases hi with hi | hi | hi
  ·by_cases hs:g 0 0<2
   ·exact ak az (aN _ g 3) rfl (das:=[.one (.sl 3 3 g),.one (.i .u8 b),.one (.i .u8 w),.one (.i .u8 p)]) (Xb g _ g b w p hb hw hp hk hi ⟨by rw [hi];rfl,by rw [hi];rfl,by rw [hi];rfl⟩ he hl hh lh hq (by exact ⟨rfl,rfl,rfl,rfl,rfl,rfl,rfl,rfl,rfl⟩) e1 l1 h1 hs)
   ·have hs:2≤g 0 0:=by omega
    have tn:=bz (b:=p) (p:=g 0 0-1) (by omega) (by omega)
    have hn:0≤Int.tmod p (g 0 0-1)∧Int.tmod p (g 0 0-1)≤g 0 0-2:=by omega
    obtain ⟨e2,l2,h2⟩:=Vq (n:=1+Int.tmod p (g 0 0-1)) h (by omega)
    exact ak az (aN _ _ 3) rfl (das:=[.one (.sl 3 3 g),.one (.i .u8 b),.one (.i .u8 w),.one (.i .u8 p)]) (Wv g _ _ b w p hb hw hp hk hi ⟨by rw [hi];rfl,by rw [hi];rfl,by rw [hi];rfl⟩ he hl hh lh hq (by exact ⟨rfl,rfl,rfl,rfl,rfl,rfl,rfl,rfl,rfl⟩) e1 l1 h1 hs hn (by rw [hi];rfl) (by exact ⟨rfl,rfl,rfl,rfl,rfl,rfl,rfl,rfl,rfl,rfl,rfl,rfl⟩) e2 l2 h2)
  ·by_cases hs:g 1 0<2
   ·exact ak az (aN _ g 3) rfl (das:=[.one (.sl 3 3 g),.one (.i .u8 b),.one (.i .u8 w),.one (.i .u8 p)]) (Xf g _ g b w p hb hw hp hk hi ⟨by rw [hi];rfl,by rw [hi];rfl,by rw [hi];rfl⟩ he hl hh lh hq (by exact ⟨rfl,rfl,rfl,rfl,rfl,rfl,rfl,rfl,rfl⟩) e1 l1 h1 hs)
   ·have hs:2≤g 1 0:=by omega
    have tn:=bz (b:=p) (p:=g 1 0-1) (by omega) (by omega)
    have hn:0≤Int.tmod p (g 1 0-1)∧Int.tmod p (g 1 0-1)≤g 1 0-2:=by omega
    obtain ⟨e2,l2,h2⟩:=Ve (n:=1+Int.tmod p (g 1 0-1)) h (by omega)
    exact ak az (aN _ _ 3) rfl (das:=[.one (.sl 3 3 g),.one (.i .u8 b),.one (.i .u8 w),.one (.i .u8 p)]) (Xi g _ _ b w p hb hw hp hk hi ⟨by rw [hi];rfl,by rw [hi];rfl,by rw [hi];rfl⟩ he hl hh lh hq (by exact ⟨rfl,rfl,rfl,rfl,rfl,rfl,rfl,rfl,rfl⟩) e1 l1 h1 hs hn (by rw [hi];rfl) (by exact ⟨rfl,rfl,rfl,rfl,rfl,rfl,rfl,rfl,rfl,rfl,rfl,rfl⟩) e2 l2 h2)
  ·by_cases hs:g 2 0<2
   ·exact ak az (aN _ g 3) rfl (das:=[.one (.sl 3 3 g),.one (.i .u8 b),.one (.i .u8 w),.one (.i .u8 p)]) (XB g _ g b w p hb hw hp hk hi ⟨by rw [hi];rfl,by rw [hi];rfl,by rw [hi];rfl⟩ he hl hh lh hq (by exact ⟨rfl,rfl,rfl,rfl,rfl,rfl,rfl,rfl,rfl⟩) e1 l1 h1 hs)
   ·have hs:2≤g 2 0:=by omega
    have tn:=bz (b:=p) (p:=g 2 0-1) (by omega) (by omega)
    have hn:0≤Int.tmod p (g 2 0-1)∧Int.tmod p (g 2 0-1)≤g 2 0-2:=by omega
    obtain ⟨e2,l2,h2⟩:=VI (n:=1+Int.tmod p (g 2 0-1)) h (by omega)
    exact ak az (aN _ _ 3) rfl (das:=[.one (.sl 3 3 g),.one (.i .u8 b),.one (.i .u8 w),.one (.i .u8 p)]) (We g _ _ b w p hb hw hp hk hi ⟨by rw [hi];rfl,by rw [hi];rfl,by rw [hi];rfl⟩ he hl hh lh hq (by exact ⟨rfl,rfl,rfl,rfl,rfl,rfl,rfl,rfl,rfl⟩) e1 l1 h1 hs hn (by rw [hi];rfl) (by exact ⟨rfl,rfl,rfl,rfl,rfl,rfl,rfl,rfl,rfl,rfl,rfl,rfl⟩) e2 l2 h2)
 ·obtain ⟨e1,l1,h1⟩:=Y3 h
  rcases hi with hi | hi | hi
  ·by_cases hs:g 0 0<2
   ·exact ak az (aN _ g 3) rfl (das:=[.one (.sl 3 3 g),.one (.i .u8 b),.one (.i .u8 w),.one (.i .u8 p)]) (XE g _ g b w p hb hw hp hk hi ⟨by rw [hi];rfl,by rw [hi];rfl,by rw [hi];rfl⟩ he hl hh lh hq (by exact ⟨rfl,rfl,rfl,rfl,rfl,rfl,rfl,rfl,rfl⟩) e1 l1 h1 hs)
   ·have hs:2≤g 0 0:=by omega
    have tn:=bz (b:=p) (p:=g 0 0-1) (by omega) (by omega)
    have hn:0≤Int.tmod p (g 0 0-1)∧Int.tmod p (g 0 0-1)≤g 0 0-2:=by omega
    obtain ⟨e2,l2,h2⟩:=Vq (n:=1+Int.tmod p (g 0 0-1)) h (by omega)
    exact ak az (aN _ _ 3) rfl (das:=[.one (.sl 3 3 g),.one (.i .u8 b),.one (.i .u8 w),.one (.i .u8 p)]) (Xu g _ _ b w p hb hw hp hk hi ⟨by rw [hi];rfl,by rw [hi];rfl,by rw [hi];rfl⟩ he hl hh lh hq (by exact ⟨rfl,rfl,rfl,rfl,rfl,rfl,rfl,rfl,rfl⟩) e1 l1 h1 hs hn (by rw [hi];rfl) (by exact ⟨rfl,rfl,rfl,rfl,rfl,rfl,rfl,rfl,rfl,rfl,rfl,rfl⟩) e2 l2 h2)
  ·by_cases hs:g 1 0<2
   ·exact ak az (aN _ g 3) rfl (das:=[.one (.sl 3 3 g),.one (.i .u8 b),.one (.i .u8 w),.one (.i .u8 p)]) (YK g _ g b w p hb hw hp hk hi ⟨by rw [hi];rfl,by rw [hi];rfl,by rw [hi];rfl⟩ he hl hh lh hq (by exact ⟨rfl,rfl,rfl,rfl,rfl,rfl,rfl,rfl,rfl⟩) e1 l1 h1 hs)
   ·have hs:2≤g 1 0:=by omega
    have tn:=bz (b:=p) (p:=g 1 0-1) (by omega) (by omega)
    have hn:0≤Int.tmod p (g 1 0-1)∧Int.tmod p (g 1 0-1)≤g 1 0-2:=by omega
    obtain ⟨e2,l2,h2⟩:=Ve (n:=1+Int.tmod p (g 1 0-1)) h (by omega)
    exact ak az (aN _ _ 3) rfl (das:=[.one (.sl 3 3 g),.one (.i .u8 b),.one (.i .u8 w),.one (.i .u8 p)]) (Xw g _ _ b w p hb hw hp hk hi ⟨by rw [hi];rfl,by rw [hi];rfl,by rw [hi];rfl⟩ he hl hh lh hq (by exact ⟨rfl,rfl,rfl,rfl,rfl,rfl,rfl,rfl,rfl⟩) e1 l1 h1 hs hn (by rw [hi];rfl) (by exact ⟨rfl,rfl,rfl,rfl,rfl,rfl,rfl,rfl,rfl,rfl,rfl,rfl⟩) e2 l2 h2)
  ·by_cases hs:g 2 0<2
   ·exact ak az (aN _ g 3) rfl (das:=[.one (.sl 3 3 g),.one (.i .u8 b),.one (.i .u8 w),.one (.i .u8 p)]) (Yb g _ g b w p hb hw hp hk hi ⟨by rw [hi];rfl,by rw [hi];rfl,by rw [hi];rfl⟩ he hl hh lh hq (by exact ⟨rfl,rfl,rfl,rfl,rfl,rfl,rfl,rfl,rfl⟩) e1 l1 h1 hs)
   ·have hs:2≤g 2 0:=by omega
    have tn:=bz (b:=p) (p:=g 2 0-1) (by omega) (by omega)
    have hn:0≤Int.tmod p (g 2 0-1)∧Int.tmod p (g 2 0-1)≤g 2 0-2:=by omega
    obtain ⟨e2,l2,h2⟩:=VI (n:=1+Int.tmod p (g 2 0-1)) h (by omega)
    exact ak az (aN _ _ 3) rfl (das:=[.one (.sl 3 3 g),.one (.i .u8 b),.one (.i .u8 w),.one (.i .u8 p)]) (YD g _ _ b w p hb hw hp hk hi ⟨by rw [hi];rfl,by rw [hi];rfl,by rw [hi];rfl⟩ he hl hh lh hq (by exact ⟨rfl,rfl,rfl,rfl,rfl,rfl,rfl,rfl,rfl⟩) e1 l1 h1 hs hn (by rw [hi];rfl) (by exact ⟨rfl,rfl,rfl,rfl,rfl,rfl,rfl,rfl,rfl,rfl,rfl,rfl⟩) e2 l2 h2)
theorem Y2 {g:Nat→Nat→Int} (h:∀ k,k<4→1≤g k 0∧g k 0≤1000∧0≤g k 1∧g k 1≤g k 2∧g k 2≤200):mxE (au [g 0 0,g 0 1,g 0 2,g 1 0,g 1 1,g 1 2,g 2 0,g 2 1,g 2 2,g 3 0,g 3 1,g 3 2] 3) 4=0∧mxL (au [g 0 0,g 0 1,g 0 2,g 1 0,g 1 1,g 1 2,g 2 0,g 2 1,g 2 2,g 3 0,g 3 1,g 3 2] 3) 4=mxL g 4∧mxH (au [g 0 0,g 0 1,g 0 2,g 1 0,g 1 1,g 1 2,g 2 0,g 2 1,g 2 2,g 3 0,g 3 1,g 3 2] 3) 4=mxH g 4:=by
 have e:mxE (au [g 0 0,g 0 1,g 0 2,g 1 0,g 1 1,g 1 2,g 2 0,g 2 1,g 2 2,g 3 0,g 3 1,g 3 2] 3) 4=0:=aI (by omega) (by omega) fun j hj=>by
  have hc:j=0∨j=1∨j=2∨j=3:=by omega
  rcases hc with rfl | rfl | rfl | rfl
  ·exact h 0 (by omega)
  ·exact h 1 (by omega)
  ·exact h 2 (by omega)
  ·exact h 3 (by omega)
 refine ⟨e,bi (aI (by omega) (by omega) h) e (aK ?_ ?_) (aK ?_ ?_)⟩
 ·show 0+g 0 0*g 0 1+g 1 0*g 1 1+g 2 0*g 2 1+g 3 0*g 3 1=0+g 0 0*g 0 1+g 1 0*g 1 1+g 2 0*g 2 1+g 3 0*g 3 1
  omega
 ·show 0+g 0 0+g 1 0+g 2 0+g 3 0=0+g 0 0+g 1 0+g 2 0+g 3 0
  omega
 ·show 0+g 0 0*g 0 2+g 1 0*g 1 2+g 2 0*g 2 2+g 3 0*g 3 2=0+g 0 0*g 0 2+g 1 0*g 1 2+g 2 0*g 2 2+g 3 0*g 3 2
  omega
 ·show 0+g 0 0+g 1 0+g 2 0+g 3 0=0+g 0 0+g 1 0+g 2 0+g 3 0
  omega
theorem Zd {g:Nat→Nat→Int} (h:∀ k,k<4→1≤g k 0∧g k 0≤1000∧0≤g k 1∧g k 1≤g k 2∧g k 2≤200):mxE (au [g 1 0,g 1 1,g 1 2,g 2 0,g 2 1,g 2 2,g 3 0,g 3 1,g 3 2,g 0 0,g 0 1,g 0 2] 3) 4=0∧mxL (au [g 1 0,g 1 1,g 1 2,g 2 0,g 2 1,g 2 2,g 3 0,g 3 1,g 3 2,g 0 0,g 0 1,g 0 2] 3) 4=mxL g 4∧mxH (au [g 1 0,g 1 1,g 1 2,g 2 0,g 2 1,g 2 2,g 3 0,g 3 1,g 3 2,g 0 0,g 0 1,g 0 2] 3) 4=mxH g 4:=by
 have e:mxE (au [g 1 0,g 1 1,g 1 2,g 2 0,g 2 1,g 2 2,g 3 0,g 3 1,g 3 2,g 0 0,g 0 1,g 0 2] 3) 4=0:=aI (by omega) (by omega) fun j hj=>by
  have hc:j=0∨j=1∨j=2∨j=3:=by omega
  rcases hc with rfl | rfl | rfl | rfl
  ·exact h 1 (by omega)
  ·exact h 2 (by omega)
  ·exact h 3 (by omega)
  ·exact h 0 (by omega)
 refine ⟨e,bi (aI (by omega) (by omega) h) e (aK ?_ ?_) (aK ?_ ?_)⟩
 ·show 0+g 1 0*g 1 1+g 2 0*g 2 1+g 3 0*g 3 1+g 0 0*g 0 1=0+g 0 0*g 0 1+g 1 0*g 1 1+g 2 0*g 2 1+g 3 0*g 3 1
  omega
 ·show 0+g 1 0+g 2 0+g 3 0+g 0 0=0+g 0 0+g 1 0+g 2 0+g 3 0
  omega
 ·show 0+g 1 0*g 1 2+g 2 0*g 2 2+g 3 0*g 3 2+g 0 0*g 0 2=0+g 0 0*g 0 2+g 1 0*g 1 2+g 2 0*g 2 2+g 3 0*g 3 2
  omega
 ·show 0+g 1 0+g 2 0+g 3 0+g 0 0=0+g 0 0+g 1 0+g 2 0+g 3 0
  omega
theorem Zt {g:Nat→Nat→Int} (h:∀ k,k<4→1≤g k 0∧g k 0≤1000∧0≤g k 1∧g k 1≤g k 2∧g k 2≤200):mxE (au [g 2 0,g 2 1,g 2 2,g 3 0,g 3 1,g 3 2,g 0 0,g 0 1,g 0 2,g 1 0,g 1 1,g 1 2] 3) 4=0∧mxL (au [g 2 0,g 2 1,g 2 2,g 3 0,g 3 1,g 3 2,g 0 0,g 0 1,g 0 2,g 1 0,g 1 1,g 1 2] 3) 4=mxL g 4∧mxH (au [g 2 0,g 2 1,g 2 2,g 3 0,g 3 1,g 3 2,g 0 0,g 0 1,g 0 2,g 1 0,g 1 1,g 1 2] 3) 4=mxH g 4:=by
 have e:mxE (au [g 2 0,g 2 1,g 2 2,g 3 0,g 3 1,g 3 2,g 0 0,g 0 1,g 0 2,g 1 0,g 1 1,g 1 2] 3) 4=0:=aI (by omega) (by omega) fun j hj=>by
  have hc:j=0∨j=1∨j=2∨j=3:=by omega
  rcases hc with rfl | rfl | rfl | rfl
  ·exact h 2 (by omega)
  ·exact h 3 (by omega)
  ·exact h 0 (by omega)
  ·exact h 1 (by omega)
 refine ⟨e,bi (aI (by omega) (by omega) h) e (aK ?_ ?_) (aK ?_ ?_)⟩
 ·show 0+g 2 0*g 2 1+g 3 0*g 3 1+g 0 0*g 0 1+g 1 0*g 1 1=0+g 0 0*g 0 1+g 1 0*g 1 1+g 2 0*g 2 1+g 3 0*g 3 1
  omega
 ·show 0+g 2 0+g 3 0+g 0 0+g 1 0=0+g 0 0+g 1 0+g 2 0+g 3 0
  omega
 ·show 0+g 2 0*g 2 2+g 3 0*g 3 2+g 0 0*g 0 2+g 1 0*g 1 2=0+g 0 0*g 0 2+g 1 0*g 1 2+g 2 0*g 2 2+g 3 0*g 3 2
  omega
 ·show 0+g 2 0+g 3 0+g 0 0+g 1 0=0+g 0 0+g 1 0+g 2 0+g 3 0
  omega
theorem YY {g:Nat→Nat→Int} (h:∀ k,k<4→1≤g k 0∧g k 0≤1000∧0≤g k 1∧g k 1≤g k 2∧g k 2≤200):mxE (au [g 3 0,g 3 1,g 3 2,g 0 0,g 0 1,g 0 2,g 1 0,g 1 1,g 1 2,g 2 0,g 2 1,g 2 2] 3) 4=0∧mxL (au [g 3 0,g 3 1,g 3 2,g 0 0,g 0 1,g 0 2,g 1 0,g 1 1,g 1 2,g 2 0,g 2 1,g 2 2] 3) 4=mxL g 4∧mxH (au [g 3 0,g 3 1,g 3 2,g 0 0,g 0 1,g 0 2,g 1 0,g 1 1,g 1 2,g 2 0,g 2 1,g 2 2] 3) 4=mxH g 4:=by
 have e:mxE (au [g 3 0,g 3 1,g 3 2,g 0 0,g 0 1,g 0 2,g 1 0,g 1 1,g 1 2,g 2 0,g 2 1,g 2 2] 3) 4=0:=aI (by omega) (by omega) fun j hj=>by
  have hc:j=0∨j=1∨j=2∨j=3:=by omega
  rcases hc with rfl | rfl | rfl | rfl
  ·exact h 3 (by omega)
  ·exact h 0 (by omega)
  ·exact h 1 (by omega)
  ·exact h 2 (by omega)
 refine ⟨e,bi (aI (by omega) (by omega) h) e (aK ?_ ?_) (aK ?_ ?_)⟩
 ·show 0+g 3 0*g 3 1+g 0 0*g 0 1+g 1 0*g 1 1+g 2 0*g 2 1=0+g 0 0*g 0 1+g 1 0*g 1 1+g 2 0*g 2 1+g 3 0*g 3 1
  omega
 ·show 0+g 3 0+g 0 0+g 1 0+g 2 0=0+g 0 0+g 1 0+g 2 0+g 3 0
  omega
 ·show 0+g 3 0*g 3 2+g 0 0*g 0 2+g 1 0*g 1 2+g 2 0*g 2 2=0+g 0 0*g 0 2+g 1 0*g 1 2+g 2 0*g 2 2+g 3 0*g 3 2
  omega
 ·show 0+g 3 0+g 0 0+g 1 0+g 2 0=0+g 0 0+g 1 0+g 2 0+g 3 0
  omega
theorem TF {g:Nat→Nat→Int} {n:Int} (h:∀ k,k<4→1≤g k 0∧g k 0≤1000∧0≤g k 1∧g k 1≤g k 2∧g k 2≤200) (hn:1≤n∧n≤g 0 0-1):mxE (au [g 0 0-n,g 0 1,g 0 2,g 1 0,g 1 1,g 1 2,g 2 0,g 2 1,g 2 2,g 3 0,g 3 1,g 3 2,n,g 0 1,g 0 2] 3) 5=0∧mxL (au [g 0 0-n,g 0 1,g 0 2,g 1 0,g 1 1,g 1 2,g 2 0,g 2 1,g 2 2,g 3 0,g 3 1,g 3 2,n,g 0 1,g 0 2] 3) 5=mxL g 4∧mxH (au [g 0 0-n,g 0 1,g 0 2,g 1 0,g 1 1,g 1 2,g 2 0,g 2 1,g 2 2,g 3 0,g 3 1,g 3 2,n,g 0 1,g 0 2] 3) 5=mxH g 4:=by
 have hi:=h 0 (by omega)
 have e:mxE (au [g 0 0-n,g 0 1,g 0 2,g 1 0,g 1 1,g 1 2,g 2 0,g 2 1,g 2 2,g 3 0,g 3 1,g 3 2,n,g 0 1,g 0 2] 3) 5=0:=aI (by omega) (by omega) fun j hj=>by
  have hc:j=0∨j=1∨j=2∨j=3∨j=4:=by omega
  rcases hc with rfl | rfl | rfl | rfl | rfl
  ·show 1≤g 0 0-n∧g 0 0-n≤1000∧0≤g 0 1∧g 0 1≤g 0 2∧g 0 2≤200
   omega
  ·exact h 1 (by omega)
  ·exact h 2 (by omega)
  ·exact h 3 (by omega)
  ·show 1≤n∧n≤1000∧0≤g 0 1∧g 0 1≤g 0 2∧g 0 2≤200
   omega
 refine ⟨e,bi (aI (by omega) (by omega) h) e (aK ?_ ?_) (aK ?_ ?_)⟩
 ·show 0+(g 0 0-n)*g 0 1+g 1 0*g 1 1+g 2 0*g 2 1+g 3 0*g 3 1+n*g 0 1=0+g 0 0*g 0 1+g 1 0*g 1 1+g 2 0*g 2 1+g 3 0*g 3 1
  rw [Int.sub_mul]
  omega
 ·show 0+(g 0 0-n)+g 1 0+g 2 0+g 3 0+n=0+g 0 0+g 1 0+g 2 0+g 3 0
  omega
 ·show 0+(g 0 0-n)*g 0 2+g 1 0*g 1 2+g 2 0*g 2 2+g 3 0*g 3 2+n*g 0 2=0+g 0 0*g 0 2+g 1 0*g 1 2+g 2 0*g 2 2+g 3 0*g 3 2
  rw [Int.sub_mul]
  omega
 ·show 0+(g 0 0-n)+g 1 0+g 2 0+g 3 0+n=0+g 0 0+g 1 0+g 2 0+g 3 0
  omega
theorem Rx {g:Nat→Nat→Int} {n:Int} (h:∀ k,k<4→1≤g k 0∧g k 0≤1000∧0≤g k 1∧g k 1≤g k 2∧g k 2≤200) (hn:1≤n∧n≤g 1 0-1):mxE (au [g 0 0,g 0 1,g 0 2,g 1 0-n,g 1 1,g 1 2,g 2 0,g 2 1,g 2 2,g 3 0,g 3 1,g 3 2,n,g 1 1,g 1 2] 3) 5=0∧mxL (au [g 0 0,g 0 1,g 0 2,g 1 0-n,g 1 1,g 1 2,g 2 0,g 2 1,g 2 2,g 3 0,g 3 1,g 3 2,n,g 1 1,g 1 2] 3) 5=mxL g 4∧mxH (au [g 0 0,g 0 1,g 0 2,g 1 0-n,g 1 1,g 1 2,g 2 0,g 2 1,g 2 2,g 3 0,g 3 1,g 3 2,n,g 1 1,g 1 2] 3) 5=mxH g 4:=by
 have hi:=h 1 (by omega)
 have e:mxE (au [g 0 0,g 0 1,g 0 2,g 1 0-n,g 1 1,g 1 2,g 2 0,g 2 1,g 2 2,g 3 0,g 3 1,g 3 2,n,g 1 1,g 1 2] 3) 5=0:=aI (by omega) (by omega) fun j hj=>by
  have hc:j=0∨j=1∨j=2∨j=3∨j=4:=by omega
  rcases hc with rfl | rfl | rfl | rfl | rfl
  ·exact h 0 (by omega)
  ·show 1≤g 1 0-n∧g 1 0-n≤1000∧0≤g 1 1∧g 1 1≤g 1 2∧g 1 2≤200
   omega
  ·exact h 2 (by omega)
  ·exact h 3 (by omega)
  ·show 1≤n∧n≤1000∧0≤g 1 1∧g 1 1≤g 1 2∧g 1 2≤200
   omega
 refine ⟨e,bi (aI (by omega) (by omega) h) e (aK ?_ ?_) (aK ?_ ?_)⟩
 ·show 0+g 0 0*g 0 1+(g 1 0-n)*g 1 1+g 2 0*g 2 1+g 3 0*g 3 1+n*g 1 1=0+g 0 0*g 0 1+g 1 0*g 1 1+g 2 0*g 2 1+g 3 0*g 3 1
  rw [Int.sub_mul]
  omega
 ·show 0+g 0 0+(g 1 0-n)+g 2 0+g 3 0+n=0+g 0 0+g 1 0+g 2 0+g 3 0
  omega
 ·show 0+g 0 0*g 0 2+(g 1 0-n)*g 1 2+g 2 0*g 2 2+g 3 0*g 3 2+n*g 1 2=0+g 0 0*g 0 2+g 1 0*g 1 2+g 2 0*g 2 2+g 3 0*g 3 2
  rw [Int.sub_mul]
  omega
 ·show 0+g 0 0+(g 1 0-n)+g 2 0+g 3 0+n=0+g 0 0+g 1 0+g 2 0+g 3 0
  omega
theorem Tq {g:Nat→Nat→Int} {n:Int} (h:∀ k,k<4→1≤g k 0∧g k 0≤1000∧0≤g k 1∧g k 1≤g k 2∧g k 2≤200) (hn:1≤n∧n≤g 2 0-1):mxE (au [g 0 0,g 0 1,g 0 2,g 1 0,g 1 1,g 1 2,g 2 0-n,g 2 1,g 2 2,g 3 0,g 3 1,g 3 2,n,g 2 1,g 2 2] 3) 5=0∧mxL (au [g 0 0,g 0 1,g 0 2,g 1 0,g 1 1,g 1 2,g 2 0-n,g 2 1,g 2 2,g 3 0,g 3 1,g 3 2,n,g 2 1,g 2 2] 3) 5=mxL g 4∧mxH (au [g 0 0,g 0 1,g 0 2,g 1 0,g 1 1,g 1 2,g 2 0-n,g 2 1,g 2 2,g 3 0,g 3 1,g 3 2,n,g 2 1,g 2 2] 3) 5=mxH g 4:=by
 have hi:=h 2 (by omega)
 have e:mxE (au [g 0 0,g 0 1,g 0 2,g 1 0,g 1 1,g 1 2,g 2 0-n,g 2 1,g 2 2,g 3 0,g 3 1,g 3 2,n,g 2 1,g 2 2] 3) 5=0:=aI (by omega) (by omega) fun j hj=>by
  have hc:j=0∨j=1∨j=2∨j=3∨j=4:=by omega
  rcases hc with rfl | rfl | rfl | rfl | rfl
  ·exact h 0 (by omega)
  ·exact h 1 (by omega)
  ·show 1≤g 2 0-n∧g 2 0-n≤1000∧0≤g 2 1∧g 2 1≤g 2 2∧g 2 2≤200
   omega
  ·exact h 3 (by omega)
  ·show 1≤n∧n≤1000∧0≤g 2 1∧g 2 1≤g 2 2∧g 2 2≤200
   omega
 refine ⟨e,bi (aI (by omega) (by omega) h) e (aK ?_ ?_) (aK ?_ ?_)⟩
 ·show 0+g 0 0*g 0 1+g 1 0*g 1 1+(g 2 0-n)*g 2 1+g 3 0*g 3 1+n*g 2 1=0+g 0 0*g 0 1+g 1 0*g 1 1+g 2 0*g 2 1+g 3 0*g 3 1
  rw [Int.sub_mul]
  omega
 ·show 0+g 0 0+g 1 0+(g 2 0-n)+g 3 0+n=0+g 0 0+g 1 0+g 2 0+g 3 0
  omega
 ·show 0+g 0 0*g 0 2+g 1 0*g 1 2+(g 2 0-n)*g 2 2+g 3 0*g 3 2+n*g 2 2=0+g 0 0*g 0 2+g 1 0*g 1 2+g 2 0*g 2 2+g 3 0*g 3 2
  rw [Int.sub_mul]
  omega
 ·show 0+g 0 0+g 1 0+(g 2 0-n)+g 3 0+n=0+g 0 0+g 1 0+g 2 0+g 3 0
  omega
theorem RF {g:Nat→Nat→Int} {n:Int} (h:∀ k,k<4→1≤g k 0∧g k 0≤1000∧0≤g k 1∧g k 1≤g k 2∧g k 2≤200) (hn:1≤n∧n≤g 3 0-1):mxE (au [g 0 0,g 0 1,g 0 2,g 1 0,g 1 1,g 1 2,g 2 0,g 2 1,g 2 2,g 3 0-n,g 3 1,g 3 2,n,g 3 1,g 3 2] 3) 5=0∧mxL (au [g 0 0,g 0 1,g 0 2,g 1 0,g 1 1,g 1 2,g 2 0,g 2 1,g 2 2,g 3 0-n,g 3 1,g 3 2,n,g 3 1,g 3 2] 3) 5=mxL g 4∧mxH (au [g 0 0,g 0 1,g 0 2,g 1 0,g 1 1,g 1 2,g 2 0,g 2 1,g 2 2,g 3 0-n,g 3 1,g 3 2,n,g 3 1,g 3 2] 3) 5=mxH g 4:=by
 have hi:=h 3 (by omega)
 have e:mxE (au [g 0 0,g 0 1,g 0 2,g 1 0,g 1 1,g 1 2,g 2 0,g 2 1,g 2 2,g 3 0-n,g 3 1,g 3 2,n,g 3 1,g 3 2] 3) 5=0:=aI (by omega) (by omega) fun j hj=>by
  have hc:j=0∨j=1∨j=2∨j=3∨j=4:=by omega
  rcases hc with rfl | rfl | rfl | rfl | rfl
  ·exact h 0 (by omega)
  ·exact h 1 (by omega)
  ·exact h 2 (by omega)
  ·show 1≤g 3 0-n∧g 3 0-n≤1000∧0≤g 3 1∧g 3 1≤g 3 2∧g 3 2≤200
   omega
  ·show 1≤n∧n≤1000∧0≤g 3 1∧g 3 1≤g 3 2∧g 3 2≤200
   omega
 refine ⟨e,bi (aI (by omega) (by omega) h) e (aK ?_ ?_) (aK ?_ ?_)⟩
 ·show 0+g 0 0*g 0 1+g 1 0*g 1 1+g 2 0*g 2 1+(g 3 0-n)*g 3 1+n*g 3 1=0+g 0 0*g 0 1+g 1 0*g 1 1+g 2 0*g 2 1+g 3 0*g 3 1
  rw [Int.sub_mul]
  omega
 ·show 0+g 0 0+g 1 0+g 2 0+(g 3 0-n)+n=0+g 0 0+g 1 0+g 2 0+g 3 0
  omega
 ·show 0+g 0 0*g 0 2+g 1 0*g 1 2+g 2 0*g 2 2+(g 3 0-n)*g 3 2+n*g 3 2=0+g 0 0*g 0 2+g 1 0*g 1 2+g 2 0*g 2 2+g 3 0*g 3 2
  rw [Int.sub_mul]
  omega
 ·show 0+g 0 0+g 1 0+g 2 0+(g 3 0-n)+n=0+g 0 0+g 1 0+g 2 0+g 3 0
  omega
theorem al4 {g:Nat→Nat→Int} {b w p:Int} (h:∀ k,k<4→1≤g k 0∧g k 0≤1000∧0≤g k 1∧g k 1≤g k 2∧g k 2≤200) (hb:0≤b∧b≤255) (hw:0≤w∧w≤255) (hp:0≤p∧p≤255):lG (.bool true)=true∧∃ v' H',SpecCall Try.prog 4 (enc [.one (.sl 3 4 g),.one (.i .u8 b),.one (.i .u8 w),.one (.i .u8 p)] 0) (aU 2) v' H'∧aP v' (.bool true):=by
 have he:mxE g 4=0:=aI (by omega) (by omega) h
 have eL:mxL g 4=jC g 4 1:=by unfold mxL;rw [(iF _ _).mpr he];rfl
 have eH:mxH g 4=jC g 4 2:=by unfold mxH;rw [(iF _ _).mpr he];rfl
 have hl:g 0 1≤mxL g 4∨g 1 1≤mxL g 4∨g 2 1≤mxL g 4∨g 3 1≤mxL g 4:=by
  rw [eL]
  obtain ⟨j,hj,h⟩:=DJ (by omega) h
  have hc:j=0∨j=1∨j=2∨j=3:=by omega
  rcases hc with rfl | rfl | rfl | rfl<;>(first | exact h | exact .inl h | exact .inr h | exact .inr (.inl h) | exact .inr (.inr h) | exact .inr (.inr (.inl h)) | exact .inr (.inr (.inr h)) | exact .inr (.inr (.inr (.inl h))) | exact .inr (.inr (.inr (.inr h))))
 have hh:mxH g 4≤g 0 2∨mxH g 4≤g 1 2∨mxH g 4≤g 2 2∨mxH g 4≤g 3 2:=by
  rw [eH]
  obtain ⟨j,hj,h⟩:=Es (by omega) h
  have hc:j=0∨j=1∨j=2∨j=3:=by omega
  rcases hc with rfl | rfl | rfl | rfl<;>(first | exact h | exact .inl h | exact .inr h | exact .inr (.inl h) | exact .inr (.inr h) | exact .inr (.inr (.inl h)) | exact .inr (.inr (.inr h)) | exact .inr (.inr (.inr (.inl h))) | exact .inr (.inr (.inr (.inr h))))
 have lh:mxL g 4≤mxH g 4:=by rw [eL,eH];exact Dj (by omega) h
 have hq:1≤g 0 0∧g 0 0≤1000∧1≤g 1 0∧g 1 0≤1000∧1≤g 2 0∧g 2 0≤1000∧1≤g 3 0∧g 3 0≤1000:=by
  have h0:=h 0 (by omega)
  have h1:=h 1 (by omega)
  have h2:=h 2 (by omega)
  have h3:=h 3 (by omega)
  omega
 have kb:=bz (b:=b) (p:=4) (by omega) (by omega)
 have kw:=bz (b:=w) (p:=4) (by omega) (by omega)
 have hk:Int.tmod b 4=0∨Int.tmod b 4=1∨Int.tmod b 4=2∨Int.tmod b 4=3:=by omega
 have hi:Int.tmod w 4=0∨Int.tmod w 4=1∨Int.tmod w 4=2∨Int.tmod w 4=3:=by omega
 rcases hk with hk | hk | hk | hk
 ·obtain ⟨e1,l1,h1⟩:=Y2 h
  rcases hi with hi | hi | hi | hi
  ·by_cases hs:g 0 0<2
   ·exact ak az (aN _ g 4) rfl (das:=[.one (.sl 3 4 g),.one (.i .u8 b),.one (.i .u8 w),.one (.i .u8 p)]) (Xg g _ g b w p hb hw hp hk hi ⟨by rw [hi];rfl,by rw [hi];rfl,by rw [hi];rfl⟩ he hl hh lh hq (by exact ⟨rfl,rfl,rfl,rfl,rfl,rfl,rfl,rfl,rfl,rfl,rfl,rfl⟩) e1 l1 h1 hs)
   ·have hs:2≤g 0 0:=by omega
    have tn:=bz (b:=p) (p:=g 0 0-1) (by omega) (by omega)
    have hn:0≤Int.tmod p (g 0 0-1)∧Int.tmod p (g 0 0-1)≤g 0 0-2:=by omega
    obtain ⟨e2,l2,h2⟩:=TF (n:=1+Int.tmod p (g 0 0-1)) h (by omega)
    exact ak az (aN _ _ 4) rfl (das:=[.one (.sl 3 4 g),.one (.i .u8 b),.one (.i .u8 w),.one (.i .u8 p)]) (YF g _ _ b w p hb hw hp hk hi ⟨by rw [hi];rfl,by rw [hi];rfl,by rw [hi];rfl⟩ he hl hh lh hq (by exact ⟨rfl,rfl,rfl,rfl,rfl,rfl,rfl,rfl,rfl,rfl,rfl,rfl⟩) e1 l1 h1 hs hn (by rw [hi];rfl) (by exact ⟨rfl,rfl,rfl,rfl,rfl,rfl,rfl,rfl,rfl,rfl,rfl,rfl,rfl,rfl,rfl⟩) e2 l2 h2)
  ·by_cases hs:g 1 0<2
   ·exact ak az (aN _ g 4) rfl (das:=[.one (.sl 3 4 g),.one (.i .u8 b),.one (.i .u8 w),.one (.i .u8 p)]) (Yk g _ g b w p hb hw hp hk hi ⟨by rw [hi];rfl,by rw [hi];rfl,by rw [hi];rfl⟩ he hl hh lh hq (by exact ⟨rfl,rfl,rfl,rfl,rfl,rfl,rfl,rfl,rfl,rfl,rfl,rfl⟩) e1 l1 h1 hs)
   ·have hs:2≤g 1 0:=by omega
    have tn:=bz (b:=p) (p:=g 1 0-1) (by omega) (by omega)
    have hn:0≤Int.tmod p (g 1 0-1)∧Int.tmod p (g 1 0-1)≤g 1 0-2:=by omega
    obtain ⟨e2,l2,h2⟩:=Rx (n:=1+Int.tmod p (g 1 0-1)) h (by omega)
    exact ak az (aN _ _ 4) rfl (das:=[.one (.sl 3 4 g),.one (.i .u8 b),.one (.i .u8 w),.one (.i .u8 p)]) (WY g _ _ b w p hb hw hp hk hi ⟨by rw [hi];rfl,by rw [hi];rfl,by rw [hi];rfl⟩ he hl hh lh hq (by exact ⟨rfl,rfl,rfl,rfl,rfl,rfl,rfl,rfl,rfl,rfl,rfl,rfl⟩) e1 l1 h1 hs hn (by rw [hi];rfl) (by exact ⟨rfl,rfl,rfl,rfl,rfl,rfl,rfl,rfl,rfl,rfl,rfl,rfl,rfl,rfl,rfl⟩) e2 l2 h2)
  ·by_cases hs:g 2 0<2
   ·exact ak az (aN _ g 4) rfl (das:=[.one (.sl 3 4 g),.one (.i .u8 b),.one (.i .u8 w),.one (.i .u8 p)]) (YH g _ g b w p hb hw hp hk hi ⟨by rw [hi];rfl,by rw [hi];rfl,by rw [hi];rfl⟩ he hl hh lh hq (by exact ⟨rfl,rfl,rfl,rfl,rfl,rfl,rfl,rfl,rfl,rfl,rfl,rfl⟩) e1 l1 h1 hs)
   ·have hs:2≤g 2 0:=by omega
    have tn:=bz (b:=p) (p:=g 2 0-1) (by omega) (by omega)
    have hn:0≤Int.tmod p (g 2 0-1)∧Int.tmod p (g 2 0-1)≤g 2 0-2:=by omega
    obtain ⟨e2,l2,h2⟩:=Tq (n:=1+Int.tmod p (g 2 0-1)) h (by omega)
    exact ak az (aN _ _ 4) rfl (das:=[.one (.sl 3 4 g),.one (.i .u8 b),.one (.i .u8 w),.one (.i .u8 p)]) (YP g _ _ b w p hb hw hp hk hi ⟨by rw [hi];rfl,by rw [hi];rfl,by rw [hi];rfl⟩ he hl hh lh hq (by exact ⟨rfl,rfl,rfl,rfl,rfl,rfl,rfl,rfl,rfl,rfl,rfl,rfl⟩) e1 l1 h1 hs hn (by rw [hi];rfl) (by exact ⟨rfl,rfl,rfl,rfl,rfl,rfl,rfl,rfl,rfl,rfl,rfl,rfl,rfl,rfl,rfl⟩) e2 l2 h2)
  ·by_cases hs:g 3 0<2
   ·exact ak az (aN _ g 4) rfl (das:=[.one (.sl 3 4 g),.one (.i .u8 b),.one (.i .u8 w),.one (.i .u8 p)]) (Yo g _ g b w p hb hw hp hk hi ⟨by rw [hi];rfl,by rw [hi];rfl,by rw [hi];rfl⟩ he hl hh lh hq (by exact ⟨rfl,rfl,rfl,rfl,rfl,rfl,rfl,rfl,rfl,rfl,rfl,rfl⟩) e1 l1 h1 hs)
   ·have hs:2≤g 3 0:=by omega
    have tn:=bz (b:=p) (p:=g 3 0-1) (by omega) (by omega)
    have hn:0≤Int.tmod p (g 3 0-1)∧Int.tmod p (g 3 0-1)≤g 3 0-2:=by omega
    obtain ⟨e2,l2,h2⟩:=RF (n:=1+Int.tmod p (g 3 0-1)) h (by omega)
    exact ak az (aN _ _ 4) rfl (das:=[.one (.sl 3 4 g),.one (.i .u8 b),.one (.i .u8 w),.one (.i .u8 p)]) (XY g _ _ b w p hb hw hp hk hi ⟨by rw [hi];rfl,by rw [hi];rfl,by rw [hi];rfl⟩ he hl hh lh hq (by exact ⟨rfl,rfl,rfl,rfl,rfl,rfl,rfl,rfl,rfl,rfl,rfl,rfl⟩) e1 l1 h1 hs hn (by rw [hi];rfl) (by exact ⟨rfl,rfl,rfl,rfl,rfl,rfl,rfl,rfl,rfl,rfl,rfl,rfl,rfl,rfl,rfl⟩) e2 l2 h2)
 ·obtain ⟨e1,l1,h1⟩:=Zd h
  rcases hi with hi | hi | hi | hi
  ·by_cases hs:g 0 0<2
   ·exact ak az (aN _ g 4) rfl (das:=[.one (.sl 3 4 g),.one (.i .u8 b),.one (.i .u8 w),.one (.i .u8 p)]) (WQ g _ g b w p hb hw hp hk hi ⟨by rw [hi];rfl,by rw [hi];rfl,by rw [hi];rfl⟩ he hl hh lh hq (by exact ⟨rfl,rfl,rfl,rfl,rfl,rfl,rfl,rfl,rfl,rfl,rfl,rfl⟩) e1 l1 h1 hs)
   ·have hs:2≤g 0 0:=by omega
    have tn:=bz (b:=p) (p:=g 0 0-1) (by omega) (by omega)
    have hn:0≤Int.tmod p (g 0 0-1)∧Int.tmod p (g 0 0-1)≤g 0 0-2:=by omega
    obtain ⟨e2,l2,h2⟩:=TF (n:=1+Int.tmod p (g 0 0-1)) h (by omega)
    exact ak az (aN _ _ 4) rfl (das:=[.one (.sl 3 4 g),.one (.i .u8 b),.one (.i .u8 w),.one (.i .u8 p)]) (Wp g _ _ b w p hb hw hp hk hi ⟨by rw [hi];rfl,by rw [hi];rfl,by rw [hi];rfl⟩ he hl hh lh hq (by exact ⟨rfl,rfl,rfl,rfl,rfl,rfl,rfl,rfl,rfl,rfl,rfl,rfl⟩) e1 l1 h1 hs hn (by rw [hi];rfl) (by exact ⟨rfl,rfl,rfl,rfl,rfl,rfl,rfl,rfl,rfl,rfl,rfl,rfl,rfl,rfl,rfl⟩) e2 l2 h2)
  ·by_cases hs:g 1 0<2
   ·exact ak az (aN _ g 4) rfl (das:=[.one (.sl 3 4 g),.one (.i .u8 b),.one (.i .u8 w),.one (.i .u8 p)]) (YL g _ g b w p hb hw hp hk hi ⟨by rw [hi];rfl,by rw [hi];rfl,by rw [hi];rfl⟩ he hl hh lh hq (by exact ⟨rfl,rfl,rfl,rfl,rfl,rfl,rfl,rfl,rfl,rfl,rfl,rfl⟩) e1 l1 h1 hs)
   ·have hs:2≤g 1 0:=by omega
    have tn:=bz (b:=p) (p:=g 1 0-1) (by omega) (by omega)
    have hn:0≤Int.tmod p (g 1 0-1)∧Int.tmod p (g 1 0-1)≤g 1 0-2:=by omega
    obtain ⟨e2,l2,h2⟩:=Rx (n:=1+Int.tmod p (g 1 0-1)) h (by omega)
    exact ak az (aN _ _ 4) rfl (das:=[.one (.sl 3 4 g),.one (.i .u8 b),.one (.i .u8 w),.one (.i .u8 p)]) (Yc g _ _ b w p hb hw hp hk hi ⟨by rw [hi];rfl,by rw [hi];rfl,by rw [hi];rfl⟩ he hl hh lh hq (by exact ⟨rfl,rfl,rfl,rfl,rfl,rfl,rfl,rfl,rfl,rfl,rfl,rfl⟩) e1 l1 h1 hs hn (by rw [hi];rfl) (by exact ⟨rfl,rfl,rfl,rfl,rfl,rfl,rfl,rfl,rfl,rfl,rfl,rfl,rfl,rfl,rfl⟩) e2 l2 h2)
  ·by_cases hs:g 2 0<2
   ·exact ak az (aN _ g 4) rfl (das:=[.one (.sl 3 4 g),.one (.i .u8 b),.one (.i .u8 w),.one (.i .u8 p)]) (Wy g _ g b w p hb hw hp hk hi ⟨by rw [hi];rfl,by rw [hi];rfl,by rw [hi];rfl⟩ he hl hh lh hq (by exact ⟨rfl,rfl,rfl,rfl,rfl,rfl,rfl,rfl,rfl,rfl,rfl,rfl⟩) e1 l1 h1 hs)
   ·have hs:2≤g 2 0:=by omega
    have tn:=bz (b:=p) (p:=g 2 0-1) (by omega) (by omega)
    have hn:0≤Int.tmod p (g 2 0-1)∧Int.tmod p (g 2 0-1)≤g 2 0-2:=by omega
    obtain ⟨e2,l2,h2⟩:=Tq (n:=1+Int.tmod p (g 2 0-1)) h (by omega)
    exact ak az (aN _ _ 4) rfl (das:=[.one (.sl 3 4 g),.one (.i .u8 b),.one (.i .u8 w),.one (.i .u8 p)]) (Xq g _ _ b w p hb hw hp hk hi ⟨by rw [hi];rfl,by rw [hi];rfl,by rw [hi];rfl⟩ he hl hh lh hq (by exact ⟨rfl,rfl,rfl,rfl,rfl,rfl,rfl,rfl,rfl,rfl,rfl,rfl⟩) e1 l1 h1 hs hn (by rw [hi];rfl) (by exact ⟨rfl,rfl,rfl,rfl,rfl,rfl,rfl,rfl,rfl,rfl,rfl,rfl,rfl,rfl,rfl⟩) e2 l2 h2)
  ·by_cases hs:g 3 0<2
   ·exact ak az (aN _ g 4) rfl (das:=[.one (.sl 3 4 g),.one (.i .u8 b),.one (.i .u8 w),.one (.i .u8 p)]) (Xy g _ g b w p hb hw hp hk hi ⟨by rw [hi];rfl,by rw [hi];rfl,by rw [hi];rfl⟩ he hl hh lh hq (by exact ⟨rfl,rfl,rfl,rfl,rfl,rfl,rfl,rfl,rfl,rfl,rfl,rfl⟩) e1 l1 h1 hs)
   ·have hs:2≤g 3 0:=by omega
    have tn:=bz (b:=p) (p:=g 3 0-1) (by omega) (by omega)
    have hn:0≤Int.tmod p (g 3 0-1)∧Int.tmod p (g 3 0-1)≤g 3 0-2:=by omega
    obtain ⟨e2,l2,h2⟩:=RF (n:=1+Int.tmod p (g 3 0-1)) h (by omega)
    exact ak az (aN _ _ 4) rfl (das:=[.one (.sl 3 4 g),.one (.i .u8 b),.one (.i .u8 w),.one (.i .u8 p)]) (WR g _ _ b w p hb hw hp hk hi ⟨by rw [hi];rfl,by rw [hi];rfl,by rw [hi];rfl⟩ he hl hh lh hq (by exact ⟨rfl,rfl,rfl,rfl,rfl,rfl,rfl,rfl,rfl,rfl,rfl,rfl⟩) e1 l1 h1 hs hn (by rw [hi];rfl) (by exact ⟨rfl,rfl,rfl,rfl,rfl,rfl,rfl,rfl,rfl,rfl,rfl,rfl,rfl,rfl,rfl⟩) e2 l2 h2)
 ·obtain ⟨e1,l1,h1⟩:=Zt h
  rcases hi with hi | hi | hi | hi
  ·by_cases hs:g 0 0<2
   ·exact ak az (aN _ g 4) rfl (das:=[.one (.sl 3 4 g),.one (.i .u8 b),.one (.i .u8 w),.one (.i .u8 p)]) (Ws g _ g b w p hb hw hp hk hi ⟨by rw [hi];rfl,by rw [hi];rfl,by rw [hi];rfl⟩ he hl hh lh hq (by exact ⟨rfl,rfl,rfl,rfl,rfl,rfl,rfl,rfl,rfl,rfl,rfl,rfl⟩) e1 l1 h1 hs)
   ·have hs:2≤g 0 0:=by omega
    have tn:=bz (b:=p) (p:=g 0 0-1) (by omega) (by omega)
    have hn:0≤Int.tmod p (g 0 0-1)∧Int.tmod p (g 0 0-1)≤g 0 0-2:=by omega
    obtain ⟨e2,l2,h2⟩:=TF (n:=1+Int.tmod p (g 0 0-1)) h (by omega)
    exact ak az (aN _ _ 4) rfl (das:=[.one (.sl 3 4 g),.one (.i .u8 b),.one (.i .u8 w),.one (.i .u8 p)]) (WL g _ _ b w p hb hw hp hk hi ⟨by rw [hi];rfl,by rw [hi];rfl,by rw [hi];rfl⟩ he hl hh lh hq (by exact ⟨rfl,rfl,rfl,rfl,rfl,rfl,rfl,rfl,rfl,rfl,rfl,rfl⟩) e1 l1 h1 hs hn (by rw [hi];rfl) (by exact ⟨rfl,rfl,rfl,rfl,rfl,rfl,rfl,rfl,rfl,rfl,rfl,rfl,rfl,rfl,rfl⟩) e2 l2 h2)
  ·by_cases hs:g 1 0<2
   ·exact ak az (aN _ g 4) rfl (das:=[.one (.sl 3 4 g),.one (.i .u8 b),.one (.i .u8 w),.one (.i .u8 p)]) (WZ g _ g b w p hb hw hp hk hi ⟨by rw [hi];rfl,by rw [hi];rfl,by rw [hi];rfl⟩ he hl hh lh hq (by exact ⟨rfl,rfl,rfl,rfl,rfl,rfl,rfl,rfl,rfl,rfl,rfl,rfl⟩) e1 l1 h1 hs)
   ·have hs:2≤g 1 0:=by omega
    have tn:=bz (b:=p) (p:=g 1 0-1) (by omega) (by omega)
    have hn:0≤Int.tmod p (g 1 0-1)∧Int.tmod p (g 1 0-1)≤g 1 0-2:=by omega
    obtain ⟨e2,l2,h2⟩:=Rx (n:=1+Int.tmod p (g 1 0-1)) h (by omega)
    exact ak az (aN _ _ 4) rfl (das:=[.one (.sl 3 4 g),.one (.i .u8 b),.one (.i .u8 w),.one (.i .u8 p)]) (V9 g _ _ b w p hb hw hp hk hi ⟨by rw [hi];rfl,by rw [hi];rfl,by rw [hi];rfl⟩ he hl hh lh hq (by exact ⟨rfl,rfl,rfl,rfl,rfl,rfl,rfl,rfl,rfl,rfl,rfl,rfl⟩) e1 l1 h1 hs hn (by rw [hi];rfl) (by exact ⟨rfl,rfl,rfl,rfl,rfl,rfl,rfl,rfl,rfl,rfl,rfl,rfl,rfl,rfl,rfl⟩) e2 l2 h2)
  ·by_cases hs:g 2 0<2
   ·exact ak az (aN _ g 4) rfl (das:=[.one (.sl 3 4 g),.one (.i .u8 b),.one (.i .u8 w),.one (.i .u8 p)]) (X3 g _ g b w p hb hw hp hk hi ⟨by rw [hi];rfl,by rw [hi];rfl,by rw [hi];rfl⟩ he hl hh lh hq (by exact ⟨rfl,rfl,rfl,rfl,rfl,rfl,rfl,rfl,rfl,rfl,rfl,rfl⟩) e1 l1 h1 hs)
   ·have hs:2≤g 2 0:=by omega
    have tn:=bz (b:=p) (p:=g 2 0-1) (by omega) (by omega)
    have hn:0≤Int.tmod p (g 2 0-1)∧Int.tmod p (g 2 0-1)≤g 2 0-2:=by omega
    obtain ⟨e2,l2,h2⟩:=Tq (n:=1+Int.tmod p (g 2 0-1)) h (by omega)
    exact ak az (aN _ _ 4) rfl (das:=[.one (.sl 3 4 g),.one (.i .u8 b),.one (.i .u8 w),.one (.i .u8 p)]) (YB g _ _ b w p hb hw hp hk hi ⟨by rw [hi];rfl,by rw [hi];rfl,by rw [hi];rfl⟩ he hl hh lh hq (by exact ⟨rfl,rfl,rfl,rfl,rfl,rfl,rfl,rfl,rfl,rfl,rfl,rfl⟩) e1 l1 h1 hs hn (by rw [hi];rfl) (by exact ⟨rfl,rfl,rfl,rfl,rfl,rfl,rfl,rfl,rfl,rfl,rfl,rfl,rfl,rfl,rfl⟩) e2 l2 h2)
  ·by_cases hs:g 3 0<2
   ·exact ak az (aN _ g 4) rfl (das:=[.one (.sl 3 4 g),.one (.i .u8 b),.one (.i .u8 w),.one (.i .u8 p)]) (XV g _ g b w p hb hw hp hk hi ⟨by rw [hi];rfl,by rw [hi];rfl,by rw [hi];rfl⟩ he hl hh lh hq (by exact ⟨rfl,rfl,rfl,rfl,rfl,rfl,rfl,rfl,rfl,rfl,rfl,rfl⟩) e1 l1 h1 hs)
   ·have hs:2≤g 3 0:=by omega
    have tn:=bz (b:=p) (p:=g 3 0-1) (by omega) (by omega)
    have hn:0≤Int.tmod p (g 3 0-1)∧Int.tmod p (g 3 0-1)≤g 3 0-2:=by omega
    obtain ⟨e2,l2,h2⟩:=RF (n:=1+Int.tmod p (g 3 0-1)) h (by omega)
    exact ak az (aN _ _ 4) rfl (das:=[.one (.sl 3 4 g),.one (.i .u8 b),.one (.i .u8 w),.one (.i .u8 p)]) (XG g _ _ b w p hb hw hp hk hi ⟨by rw [hi];rfl,by rw [hi];rfl,by rw [hi];rfl⟩ he hl hh lh hq (by exact ⟨rfl,rfl,rfl,rfl,rfl,rfl,rfl,rfl,rfl,rfl,rfl,rfl⟩) e1 l1 h1 hs hn (by rw [hi];rfl) (by exact ⟨rfl,rfl,rfl,rfl,rfl,rfl,rfl,rfl,rfl,rfl,rfl,rfl,rfl,rfl,rfl⟩) e2 l2 h2)
 ·obtain ⟨e1,l1,h1⟩:=YY h
  rcases hi with hi | hi | hi | hi
  ·by_cases hs:g 0 0<2
   ·exact ak az (aN _ g 4) rfl (das:=[.one (.sl 3 4 g),.one (.i .u8 b),.one (.i .u8 w),.one (.i .u8 p)]) (WC g _ g b w p hb hw hp hk hi ⟨by rw [hi];rfl,by rw [hi];rfl,by rw [hi];rfl⟩ he hl hh lh hq (by exact ⟨rfl,rfl,rfl,rfl,rfl,rfl,rfl,rfl,rfl,rfl,rfl,rfl⟩) e1 l1 h1 hs)
   ·have hs:2≤g 0 0:=by omega
    have tn:=bz (b:=p) (p:=g 0 0-1) (by omega) (by omega)
    have hn:0≤Int.tmod p (g 0 0-1)∧Int.tmod p (g 0 0-1)≤g 0 0-2:=by omega
    obtain ⟨e2,l2,h2⟩:=TF (n:=1+Int.tmod p (g 0 0-1)) h (by omega)
    exact ak az (aN _ _ 4) rfl (das:=[.one (.sl 3 4 g),.one (.i .u8 b),.one (.i .u8 w),.one (.i .u8 p)]) (YC g _ _ b w p hb hw hp hk hi ⟨by rw [hi];rfl,by rw [hi];rfl,by rw [hi];rfl⟩ he hl hh lh hq (by exact ⟨rfl,rfl,rfl,rfl,rfl,rfl,rfl,rfl,rfl,rfl,rfl,rfl⟩) e1 l1 h1 hs hn (by rw [hi];rfl) (by exact ⟨rfl,rfl,rfl,rfl,rfl,rfl,rfl,rfl,rfl,rfl,rfl,rfl,rfl,rfl,rfl⟩) e2 l2 h2)
  ·by_cases hs:g 1 0<2
   ·exact ak az (aN _ g 4) rfl (das:=[.one (.sl 3 4 g),.one (.i .u8 b),.one (.i .u8 w),.one (.i .u8 p)]) (XL g _ g b w p hb hw hp hk hi ⟨by rw [hi];rfl,by rw [hi];rfl,by rw [hi];rfl⟩ he hl hh lh hq (by exact ⟨rfl,rfl,rfl,rfl,rfl,rfl,rfl,rfl,rfl,rfl,rfl,rfl⟩) e1 l1 h1 hs)
   ·have hs:2≤g 1 0:=by omega
    have tn:=bz (b:=p) (p:=g 1 0-1) (by omega) (by omega)
    have hn:0≤Int.tmod p (g 1 0-1)∧Int.tmod p (g 1 0-1)≤g 1 0-2:=by omega
    obtain ⟨e2,l2,h2⟩:=Rx (n:=1+Int.tmod p (g 1 0-1)) h (by omega)
    exact ak az (aN _ _ 4) rfl (das:=[.one (.sl 3 4 g),.one (.i .u8 b),.one (.i .u8 w),.one (.i .u8 p)]) (Yz g _ _ b w p hb hw hp hk hi ⟨by rw [hi];rfl,by rw [hi];rfl,by rw [hi];rfl⟩ he hl hh lh hq (by exact ⟨rfl,rfl,rfl,rfl,rfl,rfl,rfl,rfl,rfl,rfl,rfl,rfl⟩) e1 l1 h1 hs hn (by rw [hi];rfl) (by exact ⟨rfl,rfl,rfl,rfl,rfl,rfl,rfl,rfl,rfl,rfl,rfl,rfl,rfl,rfl,rfl⟩) e2 l2 h2)
  ·by_cases hs:g 2 0<2
   ·exact ak az (aN _ g 4) rfl (das:=[.one (.sl 3 4 g),.one (.i .u8 b),.one (.i .u8 w),.one (.i .u8 p)]) (Yr g _ g b w p hb hw hp hk hi ⟨by rw [hi];rfl,by rw [hi];rfl,by rw [hi];rfl⟩ he hl hh lh hq (by exact ⟨rfl,rfl,rfl,rfl,rfl,rfl,rfl,rfl,rfl,rfl,rfl,rfl⟩) e1 l1 h1 hs)
   ·have hs:2≤g 2 0:=by omega
    have tn:=bz (b:=p) (p:=g 2 0-1) (by omega) (by omega)
    have hn:0≤Int.tmod p (g 2 0-1)∧Int.tmod p (g 2 0-1)≤g 2 0-2:=by omega
    obtain ⟨e2,l2,h2⟩:=Tq (n:=1+Int.tmod p (g 2 0-1)) h (by omega)
    exact ak az (aN _ _ 4) rfl (das:=[.one (.sl 3 4 g),.one (.i .u8 b),.one (.i .u8 w),.one (.i .u8 p)]) (Yp g _ _ b w p hb hw hp hk hi ⟨by rw [hi];rfl,by rw [hi];rfl,by rw [hi];rfl⟩ he hl hh lh hq (by exact ⟨rfl,rfl,rfl,rfl,rfl,rfl,rfl,rfl,rfl,rfl,rfl,rfl⟩) e1 l1 h1 hs hn (by rw [hi];rfl) (by exact ⟨rfl,rfl,rfl,rfl,rfl,rfl,rfl,rfl,rfl,rfl,rfl,rfl,rfl,rfl,rfl⟩) e2 l2 h2)
  ·by_cases hs:g 3 0<2
   ·exact ak az (aN _ g 4) rfl (das:=[.one (.sl 3 4 g),.one (.i .u8 b),.one (.i .u8 w),.one (.i .u8 p)]) (WO g _ g b w p hb hw hp hk hi ⟨by rw [hi];rfl,by rw [hi];rfl,by rw [hi];rfl⟩ he hl hh lh hq (by exact ⟨rfl,rfl,rfl,rfl,rfl,rfl,rfl,rfl,rfl,rfl,rfl,rfl⟩) e1 l1 h1 hs)
   ·have hs:2≤g 3 0:=by omega
    have tn:=bz (b:=p) (p:=g 3 0-1) (by omega) (by omega)
    have hn:0≤Int.tmod p (g 3 0-1)∧Int.tmod p (g 3 0-1)≤g 3 0-2:=by omega
    obtain ⟨e2,l2,h2⟩:=RF (n:=1+Int.tmod p (g 3 0-1)) h (by omega)
    exact ak az (aN _ _ 4) rfl (das:=[.one (.sl 3 4 g),.one (.i .u8 b),.one (.i .u8 w),.one (.i .u8 p)]) (Yq g _ _ b w p hb hw hp hk hi ⟨by rw [hi];rfl,by rw [hi];rfl,by rw [hi];rfl⟩ he hl hh lh hq (by exact ⟨rfl,rfl,rfl,rfl,rfl,rfl,rfl,rfl,rfl,rfl,rfl,rfl⟩) e1 l1 h1 hs hn (by rw [hi];rfl) (by exact ⟨rfl,rfl,rfl,rfl,rfl,rfl,rfl,rfl,rfl,rfl,rfl,rfl,rfl,rfl,rfl⟩) e2 l2 h2)
theorem Zq {g:Nat→Nat→Int} (h:∀ k,k<5→1≤g k 0∧g k 0≤1000∧0≤g k 1∧g k 1≤g k 2∧g k 2≤200):mxE (au [g 0 0,g 0 1,g 0 2,g 1 0,g 1 1,g 1 2,g 2 0,g 2 1,g 2 2,g 3 0,g 3 1,g 3 2,g 4 0,g 4 1,g 4 2] 3) 5=0∧mxL (au [g 0 0,g 0 1,g 0 2,g 1 0,g 1 1,g 1 2,g 2 0,g 2 1,g 2 2,g 3 0,g 3 1,g 3 2,g 4 0,g 4 1,g 4 2] 3) 5=mxL g 5∧mxH (au [g 0 0,g 0 1,g 0 2,g 1 0,g 1 1,g 1 2,g 2 0,g 2 1,g 2 2,g 3 0,g 3 1,g 3 2,g 4 0,g 4 1,g 4 2] 3) 5=mxH g 5:=by
 have e:mxE (au [g 0 0,g 0 1,g 0 2,g 1 0,g 1 1,g 1 2,g 2 0,g 2 1,g 2 2,g 3 0,g 3 1,g 3 2,g 4 0,g 4 1,g 4 2] 3) 5=0:=aI (by omega) (by omega) fun j hj=>by
  have hc:j=0∨j=1∨j=2∨j=3∨j=4:=by omega
  rcases hc with rfl | rfl | rfl | rfl | rfl
  ·exact h 0 (by omega)
  ·exact h 1 (by omega)
  ·exact h 2 (by omega)
  ·exact h 3 (by omega)
  ·exact h 4 (by omega)
 refine ⟨e,bi (aI (by omega) (by omega) h) e (aK ?_ ?_) (aK ?_ ?_)⟩
 ·show 0+g 0 0*g 0 1+g 1 0*g 1 1+g 2 0*g 2 1+g 3 0*g 3 1+g 4 0*g 4 1=0+g 0 0*g 0 1+g 1 0*g 1 1+g 2 0*g 2 1+g 3 0*g 3 1+g 4 0*g 4 1
  omega
 ·show 0+g 0 0+g 1 0+g 2 0+g 3 0+g 4 0=0+g 0 0+g 1 0+g 2 0+g 3 0+g 4 0
  omega
 ·show 0+g 0 0*g 0 2+g 1 0*g 1 2+g 2 0*g 2 2+g 3 0*g 3 2+g 4 0*g 4 2=0+g 0 0*g 0 2+g 1 0*g 1 2+g 2 0*g 2 2+g 3 0*g 3 2+g 4 0*g 4 2
  omega
 ·show 0+g 0 0+g 1 0+g 2 0+g 3 0+g 4 0=0+g 0 0+g 1 0+g 2 0+g 3 0+g 4 0
  omega
theorem YT {g:Nat→Nat→Int} (h:∀ k,k<5→1≤g k 0∧g k 0≤1000∧0≤g k 1∧g k 1≤g k 2∧g k 2≤200):mxE (au [g 1 0,g 1 1,g 1 2,g 2 0,g 2 1,g 2 2,g 3 0,g 3 1,g 3 2,g 4 0,g 4 1,g 4 2,g 0 0,g 0 1,g 0 2] 3) 5=0∧mxL (au [g 1 0,g 1 1,g 1 2,g 2 0,g 2 1,g 2 2,g 3 0,g 3 1,g 3 2,g 4 0,g 4 1,g 4 2,g 0 0,g 0 1,g 0 2] 3) 5=mxL g 5∧mxH (au [g 1 0,g 1 1,g 1 2,g 2 0,g 2 1,g 2 2,g 3 0,g 3 1,g 3 2,g 4 0,g 4 1,g 4 2,g 0 0,g 0 1,g 0 2] 3) 5=mxH g 5:=by
 have e:mxE (au [g 1 0,g 1 1,g 1 2,g 2 0,g 2 1,g 2 2,g 3 0,g 3 1,g 3 2,g 4 0,g 4 1,g 4 2,g 0 0,g 0 1,g 0 2] 3) 5=0:=aI (by omega) (by omega) fun j hj=>by
  have hc:j=0∨j=1∨j=2∨j=3∨j=4:=by omega
  rcases hc with rfl | rfl | rfl | rfl | rfl
  ·exact h 1 (by omega)
  ·exact h 2 (by omega)
  ·exact h 3 (by omega)
  ·exact h 4 (by omega)
  ·exact h 0 (by omega)
 refine ⟨e,bi (aI (by omega) (by omega) h) e (aK ?_ ?_) (aK ?_ ?_)⟩
 ·show 0+g 1 0*g 1 1+g 2 0*g 2 1+g 3 0*g 3 1+g 4 0*g 4 1+g 0 0*g 0 1=0+g 0 0*g 0 1+g 1 0*g 1 1+g 2 0*g 2 1+g 3 0*g 3 1+g 4 0*g 4 1
  omega
 ·show 0+g 1 0+g 2 0+g 3 0+g 4 0+g 0 0=0+g 0 0+g 1 0+g 2 0+g 3 0+g 4 0
  omega
 ·show 0+g 1 0*g 1 2+g 2 0*g 2 2+g 3 0*g 3 2+g 4 0*g 4 2+g 0 0*g 0 2=0+g 0 0*g 0 2+g 1 0*g 1 2+g 2 0*g 2 2+g 3 0*g 3 2+g 4 0*g 4 2
  omega
 ·show 0+g 1 0+g 2 0+g 3 0+g 4 0+g 0 0=0+g 0 0+g 1 0+g 2 0+g 3 0+g 4 0
  omega
theorem Zz {g:Nat→Nat→Int} (h:∀ k,k<5→1≤g k 0∧g k 0≤1000∧0≤g k 1∧g k 1≤g k 2∧g k 2≤200):mxE (au [g 2 0,g 2 1,g 2 2,g 3 0,g 3 1,g 3 2,g 4 0,g 4 1,g 4 2,g 0 0,g 0 1,g 0 2,g 1 0,g 1 1,g 1 2] 3) 5=0∧mxL (au [g 2 0,g 2 1,g 2 2,g 3 0,g 3 1,g 3 2,g 4 0,g 4 1,g 4 2,g 0 0,g 0 1,g 0 2,g 1 0,g 1 1,g 1 2] 3) 5=mxL g 5∧mxH (au [g 2 0,g 2 1,g 2 2,g 3 0,g 3 1,g 3 2,g 4 0,g 4 1,g 4 2,g 0 0,g 0 1,g 0 2,g 1 0,g 1 1,g 1 2] 3) 5=mxH g 5:=by
 have e:mxE (au [g 2 0,g 2 1,g 2 2,g 3 0,g 3 1,g 3 2,g 4 0,g 4 1,g 4 2,g 0 0,g 0 1,g 0 2,g 1 0,g 1 1,g 1 2] 3) 5=0:=aI (by omega) (by omega) fun j hj=>by
  have hc:j=0∨j=1∨j=2∨j=3∨j=4:=by omega
  rcases hc with rfl | rfl | rfl | rfl | rfl
  ·exact h 2 (by omega)
  ·exact h 3 (by omega)
  ·exact h 4 (by omega)
  ·exact h 0 (by omega)
  ·exact h 1 (by omega)
 refine ⟨e,bi (aI (by omega) (by omega) h) e (aK ?_ ?_) (aK ?_ ?_)⟩
 ·show 0+g 2 0*g 2 1+g 3 0*g 3 1+g 4 0*g 4 1+g 0 0*g 0 1+g 1 0*g 1 1=0+g 0 0*g 0 1+g 1 0*g 1 1+g 2 0*g 2 1+g 3 0*g 3 1+g 4 0*g 4 1
  omega
 ·show 0+g 2 0+g 3 0+g 4 0+g 0 0+g 1 0=0+g 0 0+g 1 0+g 2 0+g 3 0+g 4 0
  omega
 ·show 0+g 2 0*g 2 2+g 3 0*g 3 2+g 4 0*g 4 2+g 0 0*g 0 2+g 1 0*g 1 2=0+g 0 0*g 0 2+g 1 0*g 1 2+g 2 0*g 2 2+g 3 0*g 3 2+g 4 0*g 4 2
  omega
 ·show 0+g 2 0+g 3 0+g 4 0+g 0 0+g 1 0=0+g 0 0+g 1 0+g 2 0+g 3 0+g 4 0
  omega
theorem ZC {g:Nat→Nat→Int} (h:∀ k,k<5→1≤g k 0∧g k 0≤1000∧0≤g k 1∧g k 1≤g k 2∧g k 2≤200):mxE (au [g 3 0,g 3 1,g 3 2,g 4 0,g 4 1,g 4 2,g 0 0,g 0 1,g 0 2,g 1 0,g 1 1,g 1 2,g 2 0,g 2 1,g 2 2] 3) 5=0∧mxL (au [g 3 0,g 3 1,g 3 2,g 4 0,g 4 1,g 4 2,g 0 0,g 0 1,g 0 2,g 1 0,g 1 1,g 1 2,g 2 0,g 2 1,g 2 2] 3) 5=mxL g 5∧mxH (au [g 3 0,g 3 1,g 3 2,g 4 0,g 4 1,g 4 2,g 0 0,g 0 1,g 0 2,g 1 0,g 1 1,g 1 2,g 2 0,g 2 1,g 2 2] 3) 5=mxH g 5:=by
 have e:mxE (au [g 3 0,g 3 1,g 3 2,g 4 0,g 4 1,g 4 2,g 0 0,g 0 1,g 0 2,g 1 0,g 1 1,g 1 2,g 2 0,g 2 1,g 2 2] 3) 5=0:=aI (by omega) (by omega) fun j hj=>by
  have hc:j=0∨j=1∨j=2∨j=3∨j=4:=by omega
  rcases hc with rfl | rfl | rfl | rfl | rfl
  ·exact h 3 (by omega)
  ·exact h 4 (by omega)
  ·exact h 0 (by omega)
  ·exact h 1 (by omega)
  ·exact h 2 (by omega)
 refine ⟨e,bi (aI (by omega) (by omega) h) e (aK ?_ ?_) (aK ?_ ?_)⟩
 ·show 0+g 3 0*g 3 1+g 4 0*g 4 1+g 0 0*g 0 1+g 1 0*g 1 1+g 2 0*g 2 1=0+g 0 0*g 0 1+g 1 0*g 1 1+g 2 0*g 2 1+g 3 0*g 3 1+g 4 0*g 4 1
  omega
 ·show 0+g 3 0+g 4 0+g 0 0+g 1 0+g 2 0=0+g 0 0+g 1 0+g 2 0+g 3 0+g 4 0
  omega
 ·show 0+g 3 0*g 3 2+g 4 0*g 4 2+g 0 0*g 0 2+g 1 0*g 1 2+g 2 0*g 2 2=0+g 0 0*g 0 2+g 1 0*g 1 2+g 2 0*g 2 2+g 3 0*g 3 2+g 4 0*g 4 2
  omega
 ·show 0+g 3 0+g 4 0+g 0 0+g 1 0+g 2 0=0+g 0 0+g 1 0+g 2 0+g 3 0+g 4 0
  omega
theorem Zf {g:Nat→Nat→Int} (h:∀ k,k<5→1≤g k 0∧g k 0≤1000∧0≤g k 1∧g k 1≤g k 2∧g k 2≤200):mxE (au [g 4 0,g 4 1,g 4 2,g 0 0,g 0 1,g 0 2,g 1 0,g 1 1,g 1 2,g 2 0,g 2 1,g 2 2,g 3 0,g 3 1,g 3 2] 3) 5=0∧mxL (au [g 4 0,g 4 1,g 4 2,g 0 0,g 0 1,g 0 2,g 1 0,g 1 1,g 1 2,g 2 0,g 2 1,g 2 2,g 3 0,g 3 1,g 3 2] 3) 5=mxL g 5∧mxH (au [g 4 0,g 4 1,g 4 2,g 0 0,g 0 1,g 0 2,g 1 0,g 1 1,g 1 2,g 2 0,g 2 1,g 2 2,g 3 0,g 3 1,g 3 2] 3) 5=mxH g 5:=by
 have e:mxE (au [g 4 0,g 4 1,g 4 2,g 0 0,g 0 1,g 0 2,g 1 0,g 1 1,g 1 2,g 2 0,g 2 1,g 2 2,g 3 0,g 3 1,g 3 2] 3) 5=0:=aI (by omega) (by omega) fun j hj=>by
  have hc:j=0∨j=1∨j=2∨j=3∨j=4:=by omega
  rcases hc with rfl | rfl | rfl | rfl | rfl
  ·exact h 4 (by omega)
  ·exact h 0 (by omega)
  ·exact h 1 (by omega)
  ·exact h 2 (by omega)
  ·exact h 3 (by omega)
 refine ⟨e,bi (aI (by omega) (by omega) h) e (aK ?_ ?_) (aK ?_ ?_)⟩
 ·show 0+g 4 0*g 4 1+g 0 0*g 0 1+g 1 0*g 1 1+g 2 0*g 2 1+g 3 0*g 3 1=0+g 0 0*g 0 1+g 1 0*g 1 1+g 2 0*g 2 1+g 3 0*g 3 1+g 4 0*g 4 1
  omega
 ·show 0+g 4 0+g 0 0+g 1 0+g 2 0+g 3 0=0+g 0 0+g 1 0+g 2 0+g 3 0+g 4 0
  omega
 ·show 0+g 4 0*g 4 2+g 0 0*g 0 2+g 1 0*g 1 2+g 2 0*g 2 2+g 3 0*g 3 2=0+g 0 0*g 0 2+g 1 0*g 1 2+g 2 0*g 2 2+g 3 0*g 3 2+g 4 0*g 4 2
  omega
 ·show 0+g 4 0+g 0 0+g 1 0+g 2 0+g 3 0=0+g 0 0+g 1 0+g 2 0+g 3 0+g 4 0
  omega
theorem al5 {g:Nat→Nat→Int} {b w p:Int} (h:∀ k,k<5→1≤g k 0∧g k 0≤1000∧0≤g k 1∧g k 1≤g k 2∧g k 2≤200) (hb:0≤b∧b≤255) (hw:0≤w∧w≤255) (hp:0≤p∧p≤255):lG (.bool true)=true∧∃ v' H',SpecCall Try.prog 4 (enc [.one (.sl 3 5 g),.one (.i .u8 b),.one (.i .u8 w),.one (.i .u8 p)] 0) (aU 2) v' H'∧aP v' (.bool true):=by
 have he:mxE g 5=0:=aI (by omega) (by omega) h
 have eL:mxL g 5=jC g 5 1:=by unfold mxL;rw [(iF _ _).mpr he];rfl
 have eH:mxH g 5=jC g 5 2:=by unfold mxH;rw [(iF _ _).mpr he];rfl
 have hl:g 0 1≤mxL g 5∨g 1 1≤mxL g 5∨g 2 1≤mxL g 5∨g 3 1≤mxL g 5∨g 4 1≤mxL g 5:=by
  rw [eL]
  obtain ⟨j,hj,h⟩:=DJ (by omega) h
  have hc:j=0∨j=1∨j=2∨j=3∨j=4:=by omega
  rcases hc with rfl | rfl | rfl | rfl | rfl<;>(first | exact h | exact .inl h | exact .inr h | exact .inr (.inl h) | exact .inr (.inr h) | exact .inr (.inr (.inl h)) | exact .inr (.inr (.inr h)) | exact .inr (.inr (.inr (.inl h))) | exact .inr (.inr (.inr (.inr h))))
 have hh:mxH g 5≤g 0 2∨mxH g 5≤g 1 2∨mxH g 5≤g 2 2∨mxH g 5≤g 3 2∨mxH g 5≤g 4 2:=by
  rw [eH]
  obtain ⟨j,hj,h⟩:=Es (by omega) h
  have hc:j=0∨j=1∨j=2∨j=3∨j=4:=by omega
  rcases hc with rfl | rfl | rfl | rfl | rfl<;>(first | exact h | exact .inl h | exact .inr h | exact .inr (.inl h) | exact .inr (.inr h) | exact .inr (.inr (.inl h)) | exact .inr (.inr (.inr h)) | exact .inr (.inr (.inr (.inl h))) | exact .inr (.inr (.inr (.inr h))))
 have lh:mxL g 5≤mxH g 5:=by rw [eL,eH];exact Dj (by omega) h
 have hq:1≤g 0 0∧g 0 0≤1000∧1≤g 1 0∧g 1 0≤1000∧1≤g 2 0∧g 2 0≤1000∧1≤g 3 0∧g 3 0≤1000∧1≤g 4 0∧g 4 0≤1000:=by
  have h0:=h 0 (by omega)
  have h1:=h 1 (by omega)
  have h2:=h 2 (by omega)
  have h3:=h 3 (by omega)
  have h4:=h 4 (by omega)
  omega
 have kb:=bz (b:=b) (p:=5) (by omega) (by omega)
 have kw:=bz (b:=w) (p:=5) (by omega) (by omega)
 have hk:Int.tmod b 5=0∨Int.tmod b 5=1∨Int.tmod b 5=2∨Int.tmod b 5=3∨Int.tmod b 5=4:=by omega
 have hi:Int.tmod w 5=0∨Int.tmod w 5=1∨Int.tmod w 5=2∨Int.tmod w 5=3∨Int.tmod w 5=4:=by omega
 rcases hk with hk | hk | hk | hk | hk
 ·obtain ⟨e1,l1,h1⟩:=Zq h
  exact ak az (aN _ g 5) rfl (das:=[.one (.sl 3 5 g),.one (.i .u8 b),.one (.i .u8 w),.one (.i .u8 p)]) (Yl g _ g b w p hb hw hp hk he hl hh lh hq (by exact ⟨rfl,rfl,rfl,rfl,rfl,rfl,rfl,rfl,rfl,rfl,rfl,rfl,rfl,rfl,rfl⟩) e1 l1 h1)
 ·obtain ⟨e1,l1,h1⟩:=YT h
  exact ak az (aN _ g 5) rfl (das:=[.one (.sl 3 5 g),.one (.i .u8 b),.one (.i .u8 w),.one (.i .u8 p)]) (Ye g _ g b w p hb hw hp hk he hl hh lh hq (by exact ⟨rfl,rfl,rfl,rfl,rfl,rfl,rfl,rfl,rfl,rfl,rfl,rfl,rfl,rfl,rfl⟩) e1 l1 h1)
 ·obtain ⟨e1,l1,h1⟩:=Zz h
  exact ak az (aN _ g 5) rfl (das:=[.one (.sl 3 5 g),.one (.i .u8 b),.one (.i .u8 w),.one (.i .u8 p)]) (Xt g _ g b w p hb hw hp hk he hl hh lh hq (by exact ⟨rfl,rfl,rfl,rfl,rfl,rfl,rfl,rfl,rfl,rfl,rfl,rfl,rfl,rfl,rfl⟩) e1 l1 h1)
 ·obtain ⟨e1,l1,h1⟩:=ZC h
  exact ak az (aN _ g 5) rfl (das:=[.one (.sl 3 5 g),.one (.i .u8 b),.one (.i .u8 w),.one (.i .u8 p)]) (Wq g _ g b w p hb hw hp hk he hl hh lh hq (by exact ⟨rfl,rfl,rfl,rfl,rfl,rfl,rfl,rfl,rfl,rfl,rfl,rfl,rfl,rfl,rfl⟩) e1 l1 h1)
 ·obtain ⟨e1,l1,h1⟩:=Zf h
  exact ak az (aN _ g 5) rfl (das:=[.one (.sl 3 5 g),.one (.i .u8 b),.one (.i .u8 w),.one (.i .u8 p)]) (W9 g _ g b w p hb hw hp hk he hl hh lh hq (by exact ⟨rfl,rfl,rfl,rfl,rfl,rfl,rfl,rfl,rfl,rfl,rfl,rfl,rfl,rfl,rfl⟩) e1 l1 h1)
theorem Zk:Con Try.prog 4 Q4:=by
 intro das x hv
 unfold Q4 at hv
 split at hv
 ·rename_i m g b w p
  have hb:=congrArg Prod.fst (Option.some.inj hv)
  have hv:=congrArg Prod.snd (Option.some.inj hv)
  subst hv
  obtain ⟨b1,b2,w1,w2,p1,p2⟩:=of_decide_eq_true hb
  by_cases h9:m≤9
  ·by_cases he:mxE g m=0
   ·obtain ⟨h5,h0,ha⟩:m≤5∧0<m∧allP g m=true:=by
     rcases ja g m with ⟨q,_⟩ | ⟨q,_⟩ | ⟨_,q1,q2,q3⟩
     ·omega
     ·omega
     ·exact ⟨q1,q2,q3⟩
    have hk:=CQ ha
    have hc:m=1∨m=2∨m=3∨m=4∨m=5:=by omega
    rcases hc with rfl | rfl | rfl | rfl | rfl
    ·exact al1 hk ⟨b1,b2⟩ ⟨w1,w2⟩ ⟨p1,p2⟩
    ·exact al2 hk ⟨b1,b2⟩ ⟨w1,w2⟩ ⟨p1,p2⟩
    ·exact al3 hk ⟨b1,b2⟩ ⟨w1,w2⟩ ⟨p1,p2⟩
    ·exact al4 hk ⟨b1,b2⟩ ⟨w1,w2⟩ ⟨p1,p2⟩
    ·exact al5 hk ⟨b1,b2⟩ ⟨w1,w2⟩ ⟨p1,p2⟩
   ·exact ak az (aN g g 9) rfl (das:=[.one (.sl 3 m g),.one (.i .u8 b),.one (.i .u8 w),.one (.i .u8 p)]) (hxF m g g g b w p ⟨b1,b2⟩ ⟨w1,w2⟩ ⟨p1,p2⟩ h9 he)
  ·exact ak az (aN g g 9) rfl (das:=[.one (.sl 3 m g),.one (.i .u8 b),.one (.i .u8 w),.one (.i .u8 p)]) (hx9 m g g g b w p ⟨b1,b2⟩ ⟨w1,w2⟩ ⟨p1,p2⟩ h9)
 ·cases hv
end
theorem Df {W:World} {H:Type} {enc:TypeId×Value→H} {base:Nat} {args:List Value} {ds:List (DataW H)} {p:List MemPlace} (hval:∀ (j:Nat) t v,Try.f4.params[j]?=some t→args[j]?=some v→Value.okWide Try.prog W .any base t v)
 (hA:DataW.TrodAll enc Try.prog W 0 (fun _=>true) true Try.f4.params.toList args ds p):Calls Try.prog 4 args.toArray W (fun e w'=>e = .returned (.bool true)∧Below W.heap.size W w'):=by
 rw [Try.params4] at hA hval
 obtain ⟨x0,a0,d0,_,_,_,rfl,rfl,rfl,u0,hA⟩:=trodAll_cons hA
 obtain ⟨x1,a1,d1,_,_,_,rfl,rfl,rfl,u1,hA⟩:=trodAll_cons hA
 obtain ⟨x2,a2,d2,_,_,_,rfl,rfl,rfl,u2,hA⟩:=trodAll_cons hA
 obtain ⟨x3,a3,d3,_,_,_,rfl,rfl,rfl,u3,hA⟩:=trodAll_cons hA
 obtain ⟨rfl,rfl,rfl⟩:=trodAll_nil hA
 obtain ⟨k0,t0,r0⟩:=RN (hval 0 _ x0 rfl rfl) u0
 obtain ⟨n1,r1,b1⟩:=Bq (P:=Try.prog) (k := .u8) (by kernel_rfl) (hval 1 _ x1 rfl rfl) u1
 obtain ⟨n2,r2,b2⟩:=Bq (P:=Try.prog) (k := .u8) (by kernel_rfl) (hval 2 _ x2 rfl rfl) u2
 obtain ⟨n3,r3,b3⟩:=Bq (P:=Try.prog) (k := .u8) (by kernel_rfl) (hval 3 _ x3 rfl rfl) u3
 have hcf:cf Q4 [.fz true 0 (aj .i64 t0) k0 3,.int .u8 n1,.int .u8 n2,.int .u8 n3] (aU 1)=some (true,.bool true):=by
  have q1:IntKind.u8.min=0:=by kernel_rfl
  have p1:IntKind.u8.max=255:=by kernel_rfl
  rw [q1,p1] at b1
  have q2:IntKind.u8.min=0:=by kernel_rfl
  have p2:IntKind.u8.max=255:=by kernel_rfl
  rw [q2,p2] at b2
  have q3:IntKind.u8.min=0:=by kernel_rfl
  have p3:IntKind.u8.max=255:=by kernel_rfl
  rw [q3,p3] at b3
  have hd:decide (0≤n1∧n1≤255∧0≤n2∧n2≤255∧0≤n3∧n3≤255)=true:=decide_eq_true (by omega)
  have e1:yl [.fz true 0 (aj .i64 t0) k0 3,.int .u8 n1,.int .u8 n2,.int .u8 n3]=cond (je .i64 (aj .i64 t0) k0 3) (cond (true) (cond (true) (cond (true) (true) false) false) false) false:=by kernel_rfl
  have e2:cf Q4 [.fz true 0 (aj .i64 t0) k0 3,.int .u8 n1,.int .u8 n2,.int .u8 n3] (aU 1)=some (cond (yl [.fz true 0 (aj .i64 t0) k0 3,.int .u8 n1,.int .u8 n2,.int .u8 n3]) (decide (0≤n1∧n1≤255∧0≤n2∧n2≤255∧0≤n3∧n3≤255)) false,.bool true):=by kernel_rfl
  rw [e2,e1]
  simp only [cO,ku,cond_true,hd]
 have hs:SpecCall Try.prog 4 [.fz true 0 (aj .i64 t0) k0 3,.int .u8 n1,.int .u8 n2,.int .u8 n3] (aU 1) (.bool true) (bump (aU 1)):=wH Zk _ _ _ hcf
 have hal:=uH r0 (uH r1 (uH r2 (uH r3 (show AL (sN W) [] ([]:List Value).toArray from AL.nil _))))
 exact (O3 hs hal).mono fun e w' ⟨x,R,h1,h2,h3⟩=>by cases h2;exact ⟨h1,h3⟩
theorem vk (os:Os) (started:os.Started) (H:Type) (enc:TypeId×Value→H) :
 ReturnsInHanded {} Try.checked os 4 .any (Rows.heatMixtureSpec.pre6 enc Try.prog Try.f4 Rows.heatMixtureRow.domain false) (Rows.heatMixtureSpec.post enc Try.prog Try.f4 false true false false):=by
 refine returnsInHanded_of_change (C:=Try.checked) own started (by kernel_rfl) Try.func4
  (ChangeSpec.witness6 (enc:=enc) (C:=Try.checked) false ⟨#[],#[.slice none 0 0,.int .u8 0,.int .u8 0,.int .u8 0],[]⟩ 8 (by kernel_rfl) (by kernel_rfl) (by kernel_rfl) (by kernel_rfl)) ?_
 intro W base args ds gs before hval0 hW hcnd _
 have hW':=hW
 obtain ⟨p,q,hA0,hV,rfl,hfz,hnd⟩:=hW
 have hval:∀ (j:Nat) t v,Try.f4.params[j]?=some t→args.toList[j]?=some v→Value.okWide Try.prog W .any base t v:=fun j t v h1 h2=>hval0 j t v h1 (by simpa using h2)
 have h:=Df (args:=args.toList) hval hA0
 rw [show args.toList.toArray=args by simp] at h
 have hds:∃ da db dc dd,ds=[da,db,dc,dd]:=by
  rw [Try.params4] at hA0
  obtain ⟨x0,a0,d0,_,_,_,_,rfl,_,_,hA0⟩:=trodAll_cons hA0
  obtain ⟨x1,a1,d1,_,_,_,_,rfl,_,_,hA0⟩:=trodAll_cons hA0
  obtain ⟨x2,a2,d2,_,_,_,_,rfl,_,_,hA0⟩:=trodAll_cons hA0
  obtain ⟨x3,a3,d3,_,_,_,_,rfl,_,_,hA⟩:=trodAll_cons hA0
  obtain ⟨_,rfl,_⟩:=trodAll_nil hA
  exact ⟨_,_,_,_,rfl⟩
 obtain ⟨da,db,dc,dd,rfl⟩:=hds
 refine h.mono fun e W' ⟨he,hb⟩=>?_
 exact ⟨_,he,Law.law_post laidOut (tb:=4) (by kernel_rfl) Try.underlying4 (fun t ht=>by
  rw [Try.params4] at ht
  have ht:t∈[67,5,5,5]:=ht
  simp only [List.mem_cons,List.not_mem_nil,or_false] at ht
  rcases ht with rfl | rfl | rfl | rfl<;>exact ⟨by kernel_rfl,of_decide_eq_true (by kernel_rfl)⟩) rfl hW' rfl rfl rfl hb⟩
theorem heatMixture_holds:Rows.HeatMixtureSaid :=
 OpenClaim.holds_of_wide 4 Try.f4 rfl rfl rfl rfl rfl rfl rfl ⟨rfl,rfl,rfl,rfl,rfl⟩ rfl rfl rfl rfl rfl (by kernel_rfl) Try.func4 (by kernel_rfl)
  (of_decide_eq_true (by kernel_rfl)) (by unfold Func.isWrapper;first | (rw [if_pos (by decide +kernel)];kernel_rfl) | (rw [if_neg (by decide +kernel)];exact ⟨rfl,rfl⟩))
  (fun os started H enc _=>vk os started H enc)
end MX
theorem heatMixture_holds:Rows.HeatMixtureSaid:=MX.heatMixture_holds
end Go.Proofs.Ythakjbbhbnhmeaa
