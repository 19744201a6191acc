/- Casks: ProofFewest: the law's run. -/
import Derived.Test.YtiplgejpopellaaGreatYPrF3
set_option linter.all false
set_option linter.unusedSimpArgs false
set_option linter.unusedVariables false
namespace Go.Proofs.YtiplgejpopellaaGreat
namespace BL
open Go Go.Ev
set_option maxRecDepth 1000000
set_option maxHeartbeats 0
noncomputable section
variable (A:Nat) (B:Nat→Nat→Int) (I:Nat) (J:Nat→Nat→Int) (n:Nat) (M:Nat→Nat) (f:Nat→Nat→Nat→Int)
def uw (A:Nat) (B:Nat→Nat→Int) (I:Nat) (J:Nat→Nat→Int) (n:Nat) (M:Nat→Nat) (f:Nat→Nat→Nat→Int) (r:Int) (O:Nat) (E:Nat→Nat→Int) (lo hi:Nat→Int) (a b:Int):Int:=cond (bY (gW A B I J n M f r O E) 0) (cond (ak a b) (cond (Nat.beq O 0) 7 (dL O lo hi a b)) 2) (gW A B I J n M f r O E)
def fgN (A:Nat) (B:Nat→Nat→Int) (I:Nat) (J:Nat→Nat→Int) (n:Nat) (M:Nat→Nat) (f:Nat→Nat→Nat→Int) (r:Int) (O:Nat) (E:Nat→Nat→Int) (lo hi:Nat→Int) (a b:Int):Nat:=cond (bY (uw A B I J n M f r O E lo hi a b) 0) (fwN O lo hi a b) 0
def fgF (A:Nat) (B:Nat→Nat→Int) (I:Nat) (J:Nat→Nat→Int) (n:Nat) (M:Nat→Nat) (f:Nat→Nat→Nat→Int) (r:Int) (O:Nat) (E:Nat→Nat→Int) (lo hi:Nat→Int) (a b:Int):Nat→Nat→Int:=fwF O lo hi a b
def XFg (lo hi:Nat→Int):Ext:=jO [(30,cf Ee),(32,cfS Jq)] false
theorem LM (lo hi:Nat→Int):dM Tryz.prog (XFg lo hi):=dW (aA (dR SH)<|aA (oW YA) bK)
theorem fg1 (r:Int) (O:Nat) (E:Nat→Nat→Int) (lo hi:Nat→Int) (a b:Int) (N:Nat) (F:Nat→Nat→Int) (er:Int) (hN:N=0) (hE:er=gW A B I J n M f r O E) (s:oQ A I n M=true) (g:O≤1000) (h:¬ gW A B I J n M f r O E=0):VC (aJ Tryz.prog (XFg lo hi) 600 8 (enc [.st [.sl 1 A B,.sl 1 I J,.rr 1 n M f,.i .i64 r,.sl 5 O E],.st [.i .i64 a,.i .i64 b]] 0) 4 (fun v H=>fV 4 H v (.tup [.one (.new (.sl 1 N F)),.one (.new (.i .i64 er))]))) (.go 21 .nil):=ai (((cond (cond (cond (ay .i64 (ae .i64 B) A 1) (cond (ay .i64 (ae .i64 J) I 1) (cond (cond true (fZ 2 (aQ 2 1 M f) n 1) false) (cond (ay .i64 (ae .i64 E) O 5) true false) false) false) false) true false) (cond (oQ A I n M) (Nat.ble O 1000) false) false)=true∧((not (bY (gW A B I J n M f r O E) 0))=true∧((((0):Int)=(N:Int))∧((((gW A B I J n M f r O E):Int)=er)∧True)))))
theorem fg2 (r:Int) (O:Nat) (E:Nat→Nat→Int) (lo hi:Nat→Int) (a b:Int) (N:Nat) (F:Nat→Nat→Int) (er:Int) (hN:N=0) (hE:er=2) (s:oQ A I n M=true) (g:O≤1000) (h:gW A B I J n M f r O E=0) (hab:¬ a≤b):VC (aJ Tryz.prog (XFg lo hi) 600 8 (enc [.st [.sl 1 A B,.sl 1 I J,.rr 1 n M f,.i .i64 r,.sl 5 O E],.st [.i .i64 a,.i .i64 b]] 0) 4 (fun v H=>fV 4 H v (.tup [.one (.new (.sl 1 N F)),.one (.new (.i .i64 er))]))) (.go 89 .nil):=ai (((cond (cond (cond (ay .i64 (ae .i64 B) A 1) (cond (ay .i64 (ae .i64 J) I 1) (cond (cond true (fZ 2 (aQ 2 1 M f) n 1) false) (cond (ay .i64 (ae .i64 E) O 5) true false) false) false) false) true false) (cond (oQ A I n M) (Nat.ble O 1000) false) false)=true∧((not (bY (gW A B I J n M f r O E) 0))=false∧((not (ak a b))=true∧((((0):Int)=(N:Int))∧((((2):Int)=er)∧True))))))
theorem fg3 (r:Int) (E:Nat→Nat→Int) (lo hi:Nat→Int) (a b:Int) (N:Nat) (F:Nat→Nat→Int) (er:Int) (hN:N=0) (hE:er=7) (s:oQ A I n M=true) (h:gW A B I J n M f r 0 E=0) (h1:aT A B I J n M f=0) (h3:kC A B I J E 0=true) (hab:a≤b):VC (aJ Tryz.prog (XFg lo hi) 600 8 (enc [.st [.sl 1 A B,.sl 1 I J,.rr 1 n M f,.i .i64 r,.sl 5 0 E],.st [.i .i64 a,.i .i64 b]] 0) 4 (fun v H=>fV 4 H v (.tup [.one (.new (.sl 1 N F)),.one (.new (.i .i64 er))]))) (.go 361 .nil):=ai (((cond (cond (aZ 2 A B I J n M f) true false) (cond (oQ A I n M) true false) false)=true∧((not (bY (gW A B I J n M f r 0 E) 0))=false∧((not (ak a b))=false∧((cond (cond (aZ 2 A B I J n M f) true false) (cond (bY (aT A B I J n M f) 0) (cond true (kC A B I J E 0) false) false) false)=true∧((((0):Int)=(N:Int))∧((((7):Int)=er)∧True)))))))
def fgK (A:Nat) (B:Nat→Nat→Int) (I:Nat) (J:Nat→Nat→Int) (n:Nat) (M:Nat→Nat) (f:Nat→Nat→Nat→Int) (r:Int) (O:Nat) (E:Nat→Nat→Int) (lo hi:Nat→Int):Bool:=cond (bY (gW A B I J n M f r O E) 0) (okQ O E (jG A B I J f O E 0) (jG A B I J f O E 1) (jG A B I J f O E 2) (jG A B I J f O E 3) (jG A B I J f O E 4) (jG A B I J f O E 5) (jo A B I J f O E 0) (jo A B I J f O E 1) (jo A B I J f O E 2) (jo A B I J f O E 3) (jo A B I J f O E 4) (jo A B I J f O E 5) lo hi) true
def fgC (A:Nat) (B:Nat→Nat→Int) (I:Nat) (J:Nat→Nat→Int) (n:Nat) (M:Nat→Nat) (f:Nat→Nat→Nat→Int) (r:Int) (O:Nat) (E:Nat→Nat→Int) (lo hi:Nat→Int):Bool:=cond (oQ A I n M) (cond (Nat.ble O 1000) (fgK A B I J n M f r O E lo hi) false) false
def VL (lo hi:Nat→Int):Cf:=fun das=>match das with | [.st [.sl 1 A B,.sl 1 I J,.rr 1 n M f,.i .i64 r,.sl 5 O E],.st [.i .i64 a,.i .i64 b]]=>some (fgC A B I J n M f r O E lo hi,.tup [.one (.new (.sl 1 (fgN A B I J n M f r O E lo hi a b) (fgF A B I J n M f r O E lo hi a b))),.one (.new (.i .i64 (uw A B I J n M f r O E lo hi a b)))]) | _=>none
theorem aa3 (lo hi:Nat→Int):Jj Tryz.prog 8 (VL lo hi):=by
 intro das v hv
 unfold VL at hv
 split at hv
 ·rename_i A B I J n M f r O E a b
  have hb:=congrArg Prod.fst (Option.some.inj hv)
  have hv:=congrArg Prod.snd (Option.some.inj hv)
  subst hv
  obtain ⟨hs,hb⟩:=ah hb
  obtain ⟨hn,hk⟩:=ah hb
  have hn:=Nat.le_of_ble_eq_true hn
  have no:∀ e:Int,uw A B I J n M f r O E lo hi a b=e→e≠0→fgN A B I J n M f r O E lo hi a b=0:=fun e q qn=>by
   unfold fgN;rw [q,(fD _ _).mpr qn];rfl
  by_cases hc:gW A B I J n M f r O E=0
  ·obtain ⟨c1,c2,c3⟩:=F6 A B I J n M f r O E hc
   have hq:okQ O E (jG A B I J f O E 0) (jG A B I J f O E 1) (jG A B I J f O E 2) (jG A B I J f O E 3) (jG A B I J f O E 4) (jG A B I J f O E 5) (jo A B I J f O E 0) (jo A B I J f O E 1) (jo A B I J f O E 2) (jo A B I J f O E 3) (jo A B I J f O E 4) (jo A B I J f O E 5) lo hi=true:=by unfold fgK at hk;rw [hc] at hk;exact hk
   by_cases hab:a≤b
   ·by_cases h0:O=0
    ·subst h0
     have e:uw A B I J n M f r 0 E lo hi a b=7:=by unfold uw;rw [hc,(aW _ _).mpr hab];rfl
     exact aY aj (LM lo hi) (fg3 A B I J n M f r E lo hi a b _ _ _ (no 7 e (by decide)) e hs hc c1 c3 hab)
    ·have e:uw A B I J n M f r O E lo hi a b=dL O lo hi a b:=by unfold uw;rw [hc,(aW _ _).mpr hab,(dX _ _).mpr h0];rfl
     have eN:fgN A B I J n M f r O E lo hi a b=fwN O lo hi a b:=by
      unfold fgN
      rw [e]
      cases z:Nat.beq (uu O lo hi a b) 0 with
      | true =>
       have z0:=nb z
       rw [show dL O lo hi a b=7 by unfold dL;rw [z];rfl]
       unfold fwN
       rw [z0]
       rfl
      | false=>rw [show dL O lo hi a b=0 by unfold dL;rw [z];rfl];rfl
     rw [e,eN]
     exact Z9 lo hi _ _ (by
      show some (fwC A B I J n M f r O E lo hi a b,fwT O lo hi a b)=some (true,fwT O lo hi a b)
      rw [show fwC A B I J n M f r O E lo hi a b=true from aI hs (aI ((dQ _ _).mpr hc) (aI (dV (by omega)) (aI ((aW _ _).mpr hab) hq)))])
   ·have e:uw A B I J n M f r O E lo hi a b=2:=by unfold uw;rw [hc,(dY _ _).mpr (by omega)];rfl
    exact aY aj (LM lo hi) (fg2 A B I J n M f r O E lo hi a b _ _ _ (no 2 e (by decide)) e hs hn hc hab)
  ·have e:uw A B I J n M f r O E lo hi a b=gW A B I J n M f r O E:=by unfold uw;rw [(fD _ _).mpr hc];rfl
   exact aY aj (LM lo hi) (fg1 A B I J n M f r O E lo hi a b _ _ _ (no _ e hc) e hs hn hc)
 ·cases hv
def smV (m:Nat) (g:Nat→Nat→Int) (k:Nat) (h:Nat→Nat→Int):Bool:=cond (Nat.beq m k) (cond (BK m g k h) false (cond (BK k h m g) false true)) false
theorem sm1 (m:Nat) (g:Nat→Nat→Int) (k:Nat) (h:Nat→Nat→Int) (h3:m≤1000) (h4:k≤1000) (q:¬ m=k):VC (dh Tryz.prog XSh 300 14 (enc [.one (.sl 1 m g),.one (.sl 1 k h)] 0) 2 (fun v=>dB v (.bool false))) (.go 6 .nil):=ai (((bY (m:Int) (k:Int))=false∧(false=false)))
theorem sm2 (m:Nat) (g:Nat→Nat→Int) (k:Nat) (h:Nat→Nat→Int) (h3:m≤1000) (h4:k≤1000) (q:m=k) (b1:BK m g k h=true):VC (dh Tryz.prog XSh 300 14 (enc [.one (.sl 1 m g),.one (.sl 1 k h)] 0) 2 (fun v=>dB v (.bool false))) (.go 24641 .nil):=ai (((bY (m:Int) (k:Int))=true∧((cond (cond (ay .i64 (ae .i64 g) m 1) (cond (ay .i64 (ae .i64 h) k 1) true false) false) (cond (Nat.ble m 1000) (Nat.ble k 1000) false) false)=true∧((not (BK m g k h))=false∧(false=false)))))
theorem sm3 (m:Nat) (g:Nat→Nat→Int) (k:Nat) (h:Nat→Nat→Int) (h3:m≤1000) (h4:k≤1000) (q:m=k) (b1:BK m g k h=false) (b2:BK k h m g=true):VC (dh Tryz.prog XSh 300 14 (enc [.one (.sl 1 m g),.one (.sl 1 k h)] 0) 2 (fun v=>dB v (.bool false))) (.go 1314881 .nil):=ai (((bY (m:Int) (k:Int))=true∧((cond (cond (ay .i64 (ae .i64 g) m 1) (cond (ay .i64 (ae .i64 h) k 1) true false) false) (cond (Nat.ble m 1000) (Nat.ble k 1000) false) false)=true∧((not (BK m g k h))=true∧((cond (cond (ay .i64 (ae .i64 h) k 1) (cond (ay .i64 (ae .i64 g) m 1) true false) false) (cond (Nat.ble k 1000) (Nat.ble m 1000) false) false)=true∧((not (BK k h m g))=false))))))
theorem sm4 (m:Nat) (g:Nat→Nat→Int) (k:Nat) (h:Nat→Nat→Int) (h3:m≤1000) (h4:k≤1000) (q:m=k) (b1:BK m g k h=false) (b2:BK k h m g=false):VC (dh Tryz.prog XSh 300 14 (enc [.one (.sl 1 m g),.one (.sl 1 k h)] 0) 2 (fun v=>dB v (.bool true))) (.go 1314881 .nil):=ai (((bY (m:Int) (k:Int))=true∧((cond (cond (ay .i64 (ae .i64 g) m 1) (cond (ay .i64 (ae .i64 h) k 1) true false) false) (cond (Nat.ble m 1000) (Nat.ble k 1000) false) false)=true∧((not (BK m g k h))=true∧((cond (cond (ay .i64 (ae .i64 h) k 1) (cond (ay .i64 (ae .i64 g) m 1) true false) false) (cond (Nat.ble k 1000) (Nat.ble m 1000) false) false)=true∧((not (BK k h m g))=true))))))
def Vs:Val:=fun das=>match das with | [.one (.sl 1 m g),.one (.sl 1 k h)]=>some (cond (Nat.ble m 1000) (Nat.ble k 1000) false,.bool (smV m g k h)) | _=>none
theorem aaK:qi Tryz.prog 14 Vs:=by
 intro das v hv
 unfold Vs at hv
 split at hv
 ·rename_i m g k h
  have hb:=congrArg Prod.fst (Option.some.inj hv)
  have hv:=congrArg Prod.snd (Option.some.inj hv)
  subst hv
  obtain ⟨hm,hk⟩:=ah hb
  have hm:=Nat.le_of_ble_eq_true hm
  have hk:=Nat.le_of_ble_eq_true hk
  unfold smV
  by_cases q:m=k
  ·rw [(ig _ _).mpr q]
   cases b1:BK m g k h with
   | true=>exact bn aj ut rfl (das:=[.one (.sl 1 m g),.one (.sl 1 k h)]) (sm2 m g k h hm hk q b1)
   | false =>
    cases b2:BK k h m g with
    | true=>exact bn aj ut rfl (das:=[.one (.sl 1 m g),.one (.sl 1 k h)]) (sm3 m g k h hm hk q b1 b2)
    | false=>exact bn aj ut rfl (das:=[.one (.sl 1 m g),.one (.sl 1 k h)]) (sm4 m g k h hm hk q b1 b2)
  ·rw [(dX _ _).mpr q]
   exact bn aj ut rfl (das:=[.one (.sl 1 m g),.one (.sl 1 k h)]) (sm1 m g k h hm hk q)
 ·cases hv
def XPf (lo hi:Nat→Int):Ext:=jO [(7,cf TW),(23,cf U7),(9,cfS RY),(8,cfS (VL lo hi)),(35,cf UD),(38,cfS Go.Proofs.YtiplgejpopellaaGreat.valRs),(12,cfS Rl),(14,cf Vs)] false
theorem YK (lo hi:Nat→Int):dM Tryz.prog (XPf lo hi):=dW (aA (dR aai)<|aA (dR aa8)<|aA (oW aad)<|aA (oW (aa3 lo hi))<|aA (dR aam)<|aA (oW Go.Proofs.YtiplgejpopellaaGreat.conRs)<|aA (oW aaI)<|aA (dR aaK) bK)
theorem qf1 (r:Int) (O:Nat) (E:Nat→Nat→Int) (lo hi:Nat→Int) (a b:Int) (h:iW A I n M=false):VC (dh Tryz.prog (XPf lo hi) 600 3 (enc [.st [.sl 1 A B,.sl 1 I J,.rr 1 n M f,.i .i64 r,.sl 5 O E],.st [.i .i64 a,.i .i64 b]] 0) 4 (fun v=>dB v (.bool true))) (.go 25 .nil):=ai (((cond (cond (aZ 2 A B I J n M f) true false) true false)=true∧((iW A I n M)=false∧(true=true))))
theorem qf2 (r:Int) (O:Nat) (E:Nat→Nat→Int) (lo hi:Nat→Int) (a b:Int) (h:iW A I n M=true) (h2:¬ O≤9):VC (dh Tryz.prog (XPf lo hi) 600 3 (enc [.st [.sl 1 A B,.sl 1 I J,.rr 1 n M f,.i .i64 r,.sl 5 O E],.st [.i .i64 a,.i .i64 b]] 0) 4 (fun v=>dB v (.bool true))) (.go 20485 .nil):=ai (((cond (cond (aZ 2 A B I J n M f) true false) true false)=true∧((iW A I n M)=true∧((not (ak (O:Int) 9))=true∧(true=true)))))
theorem qf3 (r:Int) (O:Nat) (E:Nat→Nat→Int) (lo hi:Nat→Int) (a b:Int) (h:iW A I n M=true) (s:oQ A I n M=true) (h2:O≤9) (hq:fgK A B I J n M f r O E lo hi=true) (hc:¬ gW A B I J n M f r O E=0) (e1:uw A B I J n M f r O E lo hi a b=gW A B I J n M f r O E) (e2:fgN A B I J n M f r O E lo hi a b=0):VC (dh Tryz.prog (XPf lo hi) 600 3 (enc [.st [.sl 1 A B,.sl 1 I J,.rr 1 n M f,.i .i64 r,.sl 5 O E],.st [.i .i64 a,.i .i64 b]] 0) 4 (fun v=>dB v (.bool true))) (.go 352221680459781 .nil):=ai (((cond (cond (aZ 2 A B I J n M f) true false) true false)=true∧((iW A I n M)=true∧((not (ak (O:Int) 9))=false∧((cond (cond (cond (ay .i64 (ae .i64 B) A 1) (cond (ay .i64 (ae .i64 J) I 1) (cond (cond true (fZ 2 (aQ 2 1 M f) n 1) false) (cond (ay .i64 (ae .i64 E) O 5) true false) false) false) false) true false) (cond (iW A I n M) (Nat.ble O 9) false) false)=true∧((cond (cond (cond (ay .i64 (ae .i64 B) A 1) (cond (ay .i64 (ae .i64 J) I 1) (cond (cond true (fZ 9 (aQ 9 1 M f) n 1) false) (cond (ay .i64 (ae .i64 E) O 5) true false) false) false) false) true false) (cond (oQ A I n M) (cond (Nat.ble O 1000) (fgK A B I J n M f r O E lo hi) false) false) false)=true∧((cond (cond (cond (ay .i64 (ae .i64 B) A 1) (cond (ay .i64 (ae .i64 J) I 1) (cond (cond true (fZ 2 (aQ 2 1 M f) n 1) false) (cond (ay .i64 (ae .i64 E) O 5) true false) false) false) false) true false) (iW A I n M) false)=true∧((bY (gW A B I J n M f r O E) 0)=false∧((bY (gW A B I J n M f r O E) 0)=false∧((not (bY (gW A B I J n M f r O E) 0))=true∧((bY (uw A B I J n M f r O E lo hi a b) (gW A B I J n M f r O E))=true∧((bY (((fgN A B I J n M f r O E lo hi a b):Nat):Int) 0)=true∧(true=true)))))))))))))
theorem qf4 (r:Int) (O:Nat) (E:Nat→Nat→Int) (lo hi:Nat→Int) (a b:Int) (h:iW A I n M=true) (s:oQ A I n M=true) (h2:O≤9) (hq:fgK A B I J n M f r O E lo hi=true) (hc:gW A B I J n M f r O E=0) (hab:¬ a≤b) (e1:uw A B I J n M f r O E lo hi a b=2) (e2:fgN A B I J n M f r O E lo hi a b=0):VC (dh Tryz.prog (XPf lo hi) 600 3 (enc [.st [.sl 1 A B,.sl 1 I J,.rr 1 n M f,.i .i64 r,.sl 5 O E],.st [.i .i64 a,.i .i64 b]] 0) 4 (fun v=>dB v (.bool true))) (.go 352122895163397 .nil):=ai (((cond (cond (aZ 2 A B I J n M f) true false) true false)=true∧((iW A I n M)=true∧((not (ak (O:Int) 9))=false∧((cond (cond (cond (ay .i64 (ae .i64 B) A 1) (cond (ay .i64 (ae .i64 J) I 1) (cond (cond true (fZ 2 (aQ 2 1 M f) n 1) false) (cond (ay .i64 (ae .i64 E) O 5) true false) false) false) false) true false) (cond (iW A I n M) (Nat.ble O 9) false) false)=true∧((cond (cond (cond (ay .i64 (ae .i64 B) A 1) (cond (ay .i64 (ae .i64 J) I 1) (cond (cond true (fZ 9 (aQ 9 1 M f) n 1) false) (cond (ay .i64 (ae .i64 E) O 5) true false) false) false) false) true false) (cond (oQ A I n M) (cond (Nat.ble O 1000) (fgK A B I J n M f r O E lo hi) false) false) false)=true∧((cond (cond (cond (ay .i64 (ae .i64 B) A 1) (cond (ay .i64 (ae .i64 J) I 1) (cond (cond true (fZ 2 (aQ 2 1 M f) n 1) false) (cond (ay .i64 (ae .i64 E) O 5) true false) false) false) false) true false) (iW A I n M) false)=true∧((bY (gW A B I J n M f r O E) 0)=true∧((not (ak a b))=true∧((bY (uw A B I J n M f r O E lo hi a b) 2)=true∧((bY (((fgN A B I J n M f r O E lo hi a b):Nat):Int) 0)=true∧(true=true))))))))))))
theorem qf5 (r:Int) (O:Nat) (E:Nat→Nat→Int) (lo hi:Nat→Int) (a b:Int) (h:iW A I n M=true) (s:oQ A I n M=true) (h2:O≤9) (hq:fgK A B I J n M f r O E lo hi=true) (hc:gW A B I J n M f r O E=0) (hab:a≤b) (c1:aT A B I J n M f=0) (c2:O≤6) (c3:kC A B I J E O=true) (o1:rgO O E O (lG A B I J f E)=true) (e3:qp O E (lG A B I J f E) a b=false) (e1:uw A B I J n M f r O E lo hi a b=7) (e2:fgN A B I J n M f r O E lo hi a b=0):VC (dh Tryz.prog (XPf lo hi) 600 3 (enc [.st [.sl 1 A B,.sl 1 I J,.rr 1 n M f,.i .i64 r,.sl 5 O E],.st [.i .i64 a,.i .i64 b]] 0) 4 (fun v=>dB v (.bool true))) (.go 360593179157028869 .nil):=ai (((cond (cond (aZ 2 A B I J n M f) true false) true false)=true∧((iW A I n M)=true∧((not (ak (O:Int) 9))=false∧((cond (cond (cond (ay .i64 (ae .i64 B) A 1) (cond (ay .i64 (ae .i64 J) I 1) (cond (cond true (fZ 2 (aQ 2 1 M f) n 1) false) (cond (ay .i64 (ae .i64 E) O 5) true false) false) false) false) true false) (cond (iW A I n M) (Nat.ble O 9) false) false)=true∧((cond (cond (cond (ay .i64 (ae .i64 B) A 1) (cond (ay .i64 (ae .i64 J) I 1) (cond (cond true (fZ 9 (aQ 9 1 M f) n 1) false) (cond (ay .i64 (ae .i64 E) O 5) true false) false) false) false) true false) (cond (oQ A I n M) (cond (Nat.ble O 1000) (fgK A B I J n M f r O E lo hi) false) false) false)=true∧((cond (cond (cond (ay .i64 (ae .i64 B) A 1) (cond (ay .i64 (ae .i64 J) I 1) (cond (cond true (fZ 2 (aQ 2 1 M f) n 1) false) (cond (ay .i64 (ae .i64 E) O 5) true false) false) false) false) true false) (iW A I n M) false)=true∧((bY (gW A B I J n M f r O E) 0)=true∧((not (ak a b))=false∧((bY (gW A B I J n M f r O E) 0)=true∧((cond (cond (cond (ay .i64 (ae .i64 B) A 1) (cond (ay .i64 (ae .i64 J) I 1) (cond (cond true (fZ 2 (aQ 2 1 M f) n 1) false) (cond (ay .i64 (ae .i64 E) O 5) true false) false) false) false) true false) (iW A I n M) false)=true∧((not (bY (gW A B I J n M f r O E) 0))=false∧((cond (cond (cond (ay .i64 (ae .i64 B) A 1) (cond (ay .i64 (ae .i64 J) I 1) (cond (cond true (fZ 2 (aQ 2 1 M f) n 1) false) (cond (ay .i64 (ae .i64 E) O 5) true false) false) false) false) true false) (cond (bY (aT A B I J n M f) 0) (cond (Nat.ble O 6) (kC A B I J E O) false) false) false)=true∧((cond (cond (cond (ay .i64 (ae .i64 B) A 1) (cond (ay .i64 (ae .i64 J) I 1) (cond (cond true (fZ 2 (aQ 2 1 M f) n 1) false) (cond (ay .i64 (ae .i64 E) O 5) true false) false) false) false) (cond (ay .i64 (ae .i64 (lG A B I J f E)) O 2) true false) false) (rgO O E O (lG A B I J f E)) false)=true∧((not (qp O E (lG A B I J f E) a b))=true∧((bY (uw A B I J n M f r O E lo hi a b) 7)=true∧((bY (((fgN A B I J n M f r O E lo hi a b):Nat):Int) 0)=true∧(true=true))))))))))))))))))
theorem qf6 (r:Int) (O:Nat) (E:Nat→Nat→Int) (lo hi:Nat→Int) (a b:Int) (h:iW A I n M=true) (s:oQ A I n M=true) (h2:O≤9) (hq:fgK A B I J n M f r O E lo hi=true) (hc:gW A B I J n M f r O E=0) (hab:a≤b) (c1:aT A B I J n M f=0) (c2:O≤6) (c3:kC A B I J E O=true) (o1:rgO O E O (lG A B I J f E)=true) (e3:qp O E (lG A B I J f E) a b=true) (e1:uw A B I J n M f r O E lo hi a b=0) (k1:fgN A B I J n M f r O E lo hi a b≤6) (k2:rgN O E (lG A B I J f E) a b≤6) (e2:smV (fgN A B I J n M f r O E lo hi a b) (fgF A B I J n M f r O E lo hi a b) (rgN O E (lG A B I J f E) a b) (rgF O E (lG A B I J f E) a b)=true):VC (dh Tryz.prog (XPf lo hi) 600 3 (enc [.st [.sl 1 A B,.sl 1 I J,.rr 1 n M f,.i .i64 r,.sl 5 O E],.st [.i .i64 a,.i .i64 b]] 0) 4 (fun v=>dB v (.bool true))) (.go 1459629817909829637 .nil):=ai (((cond (cond (aZ 2 A B I J n M f) true false) true false)=true∧((iW A I n M)=true∧((not (ak (O:Int) 9))=false∧((cond (cond (cond (ay .i64 (ae .i64 B) A 1) (cond (ay .i64 (ae .i64 J) I 1) (cond (cond true (fZ 2 (aQ 2 1 M f) n 1) false) (cond (ay .i64 (ae .i64 E) O 5) true false) false) false) false) true false) (cond (iW A I n M) (Nat.ble O 9) false) false)=true∧((cond (cond (cond (ay .i64 (ae .i64 B) A 1) (cond (ay .i64 (ae .i64 J) I 1) (cond (cond true (fZ 9 (aQ 9 1 M f) n 1) false) (cond (ay .i64 (ae .i64 E) O 5) true false) false) false) false) true false) (cond (oQ A I n M) (cond (Nat.ble O 1000) (fgK A B I J n M f r O E lo hi) false) false) false)=true∧((cond (cond (cond (ay .i64 (ae .i64 B) A 1) (cond (ay .i64 (ae .i64 J) I 1) (cond (cond true (fZ 2 (aQ 2 1 M f) n 1) false) (cond (ay .i64 (ae .i64 E) O 5) true false) false) false) false) true false) (iW A I n M) false)=true∧((bY (gW A B I J n M f r O E) 0)=true∧((not (ak a b))=false∧((bY (gW A B I J n M f r O E) 0)=true∧((cond (cond (cond (ay .i64 (ae .i64 B) A 1) (cond (ay .i64 (ae .i64 J) I 1) (cond (cond true (fZ 2 (aQ 2 1 M f) n 1) false) (cond (ay .i64 (ae .i64 E) O 5) true false) false) false) false) true false) (iW A I n M) false)=true∧((not (bY (gW A B I J n M f r O E) 0))=false∧((cond (cond (cond (ay .i64 (ae .i64 B) A 1) (cond (ay .i64 (ae .i64 J) I 1) (cond (cond true (fZ 2 (aQ 2 1 M f) n 1) false) (cond (ay .i64 (ae .i64 E) O 5) true false) false) false) false) true false) (cond (bY (aT A B I J n M f) 0) (cond (Nat.ble O 6) (kC A B I J E O) false) false) false)=true∧((cond (cond (cond (ay .i64 (ae .i64 B) A 1) (cond (ay .i64 (ae .i64 J) I 1) (cond (cond true (fZ 2 (aQ 2 1 M f) n 1) false) (cond (ay .i64 (ae .i64 E) O 5) true false) false) false) false) (cond (ay .i64 (ae .i64 (lG A B I J f E)) O 2) true false) false) (rgO O E O (lG A B I J f E)) false)=true∧((not (qp O E (lG A B I J f E) a b))=false∧((not (bY (gW A B I J n M f r O E) 0))=false∧((bY (uw A B I J n M f r O E lo hi a b) 0)=true∧((cond (cond (ay .i64 (ae .i64 (fgF A B I J n M f r O E lo hi a b)) (fgN A B I J n M f r O E lo hi a b) 1) (cond (ay .i64 (ae .i64 (rgF O E (lG A B I J f E) a b)) (rgN O E (lG A B I J f E) a b) 1) true false) false) (cond (Nat.ble (fgN A B I J n M f r O E lo hi a b) 1000) (Nat.ble (rgN O E (lG A B I J f E) a b) 1000) false) false)=true∧((smV (fgN A B I J n M f r O E lo hi a b) (fgF A B I J n M f r O E lo hi a b) (rgN O E (lG A B I J f E) a b) (rgF O E (lG A B I J f E) a b))=true∧(true=true))))))))))))))))))))
end
end BL
end Go.Proofs.YtiplgejpopellaaGreat
