/- ProofEnds: for every input the law returns true: both ends of the bounds of the duty, and of the strength of a blend, are reached. No condition. -/
import Derived.Test.YtpfcfonplmhmiaaGreatRows
import Derived.WalkKit
import Derived.Test.YtpfcfonplmhmiaaGreatYPrE3
import Derived.Test.YtpfcfonplmhmiaaGreatYPrE4
import Derived.Test.YtpfcfonplmhmiaaGreatYPrArg
import Derived.Test.YtpfcfonplmhmiaaGreatYEd
set_option linter.all false
set_option linter.unusedSimpArgs false
set_option linter.unusedVariables false
namespace Go.Proofs.YtpfcfonplmhmiaaGreat
namespace BL
open Go Go.Ev Go.ChangeShapes Go.WideShapes Go.ChangeAt Go.RowKit
set_option maxRecDepth 1000000
noncomputable section
def valG:Val:=fun das=>match das with
  | [.st [.sl 1 lw fw,.sl 1 lm fm,.rr 1 n ls f,.i .i64 r,.sl 5 nc fc],.one (.i .u8 b),.one (.i .u8 w)]=>some (decide (0≤b∧b≤255∧0≤w∧w≤255),.bool true)
  | _=>none
theorem conG:Con Tryz.prog 3 valG:=by
  intro das x hv
  unfold valG at hv
  split at hv
  · rename_i lw fw lm fm n ls f r nc fc b w
    have hd:=of_decide_eq_true (congrArg Prod.fst (Option.some.inj hv))
    have hv:=congrArg Prod.snd (Option.some.inj hv)
    subst hv
    obtain ⟨hb1,hb2,hw1,hw2⟩:=hd
    have fin:∀ {h:HT},VC (runD0 Tryz.prog XP 600 3 (enc [.st [.sl 1 lw fw,.sl 1 lm fm,.rr 1 n ls f,.i .i64 r,.sl 5 nc fc],.one (.i .u8 b),.one (.i .u8 w)] 0) 4 (fun v=>valP v (.bool true))) h→flatV (.bool true)=true∧∃ v' H',SpecCall Tryz.prog 3 (enc [.st [.sl 1 lw fw,.sl 1 lm fm,.rr 1 n ls f,.i .i64 r,.sl 5 nc fc],.one (.i .u8 b),.one (.i .u8 w)] 0) (heap0 5) v' H'∧valP v' (.bool true):=fun hvc =>
      con_runV drawnC XP_ok rfl (das:=[.st [.sl 1 lw fw,.sl 1 lm fm,.rr 1 n ls f,.i .i64 r,.sl 5 nc fc],.one (.i .u8 b),.one (.i .u8 w)]) hvc
    cases hth:thB lw lm n ls with
    | false=>exact fin (px1 lw fw lm fm n ls f r nc fc b w hth)
    | true =>
    have hs:=th_sm hth
    by_cases h9:nc≤9
    · by_cases hc:ckE lw fw lm fm n ls f r nc fc=0
      · have ok:=ckE_get lw fw lm fm n ls f r nc fc hc
        obtain ⟨c1,c2,c3⟩:=ck_hyp lw fw lm fm n ls f r nc fc hc
        have hq:=tm_bd (b:=w) (p:=100) hw1 (by decide)
        have hB:∀ i,i<nc→_:=fun i hi=>st_bd lw fw lm fm n ls f r nc fc ok hi
        have:nc=0∨nc=1∨nc=2∨nc=3∨nc=4∨nc=5∨nc=6:=by omega
        rcases this with rfl | rfl | rfl | rfl | rfl | rfl | rfl
        · exact con_runV drawnC XP_ok rfl (das:=[.st [.sl 1 lw fw,.sl 1 lm fm,.rr 1 n ls f,.i .i64 r,.sl 5 0 fc],.one (.i .u8 b),.one (.i .u8 w)]) (px4 lw fw lm fm n ls f r fc b w hth hc)
        · have hL:∀ i,i<1→(gotRow [stF lw fw lm fm f fc 0 0] 1) i 0=loS lw fw lm fm f fc i:=fun i hi=>by
            have:i=0:=by omega
            rcases this with rfl<;>rfl
          have hH:∀ i,i<1→(gotRow [stF lw fw lm fm f fc 0 1] 1) i 0=hiS lw fw lm fm f fc i:=fun i hi=>by
            have:i=0:=by omega
            rcases this with rfl<;>rfl
          obtain ⟨e2,d1⟩:=dy_lo lw fw lm fm n ls f r 1 fc hc ok hL
          obtain ⟨e3,d2⟩:=dy_hi lw fw lm fm n ls f r 1 fc hc ok hH
          have hb:=so_hb (nc:=1) (by omega) (by omega) ⟨hb1,hb2⟩
          obtain ⟨p0,p1⟩:=hb_get hb
          have km:soN 1 b≤6:=by
            by_cases z:biN (soM 1 b)=0
            · rw [(so_z z).1];omega
            · rw [(so_n z).1];exact biN_le _
          obtain ⟨b0,b1,b2⟩:=bd_so lw fw lm fm n ls f r 1 fc (soN 1 b) (soF 1 b) (w:=Int.tmod w 100) hc hb hq.1 (by omega)
          refine con_runV drawnC XP_ok rfl (das:=[.st [.sl 1 lw fw,.sl 1 lm fm,.rr 1 n ls f,.i .i64 r,.sl 5 1 fc],.one (.i .u8 b),.one (.i .u8 w)]) (pe1 lw fw lm fm n ls f r fc b w hth hs hc c1 ⟨hb1,hb2⟩ ⟨hw1,hw2⟩ (by omega) km (by unfold ssN;rw [hc];rfl) e2 e3 d1 d2 b0 ?_ ?_ (rs_ok lw fw lm fm n ls f r 1 fc (soN 1 b) (soF 1 b) ok hb (by omega) hq.1 (by omega) (fun i hi=>by rw [hL i hi];have:=hB i hi;omega)) (rs_ok lw fw lm fm n ls f r 1 fc (soN 1 b) (soF 1 b) ok hb (by omega) hq.1 (by omega) (fun i hi=>by rw [hH i hi];have:=hB i hi;omega)))
          · rw [b1];exact rs_bl p1 (fun k hk=>by rw [hL k hk];exact lo_sel c2 hk)
          · rw [b2];exact rs_bl p1 (fun k hk=>by rw [hH k hk];exact hi_sel c2 hk)
        · have hL:∀ i,i<2→(gotRow [stF lw fw lm fm f fc 0 0,stF lw fw lm fm f fc 1 0] 1) i 0=loS lw fw lm fm f fc i:=fun i hi=>by
            have:i=0∨i=1:=by omega
            rcases this with rfl | rfl<;>rfl
          have hH:∀ i,i<2→(gotRow [stF lw fw lm fm f fc 0 1,stF lw fw lm fm f fc 1 1] 1) i 0=hiS lw fw lm fm f fc i:=fun i hi=>by
            have:i=0∨i=1:=by omega
            rcases this with rfl | rfl<;>rfl
          obtain ⟨e2,d1⟩:=dy_lo lw fw lm fm n ls f r 2 fc hc ok hL
          obtain ⟨e3,d2⟩:=dy_hi lw fw lm fm n ls f r 2 fc hc ok hH
          have hb:=so_hb (nc:=2) (by omega) (by omega) ⟨hb1,hb2⟩
          obtain ⟨p0,p1⟩:=hb_get hb
          have km:soN 2 b≤6:=by
            by_cases z:biN (soM 2 b)=0
            · rw [(so_z z).1];omega
            · rw [(so_n z).1];exact biN_le _
          obtain ⟨b0,b1,b2⟩:=bd_so lw fw lm fm n ls f r 2 fc (soN 2 b) (soF 2 b) (w:=Int.tmod w 100) hc hb hq.1 (by omega)
          refine con_runV drawnC XP_ok rfl (das:=[.st [.sl 1 lw fw,.sl 1 lm fm,.rr 1 n ls f,.i .i64 r,.sl 5 2 fc],.one (.i .u8 b),.one (.i .u8 w)]) (pe2 lw fw lm fm n ls f r fc b w hth hs hc c1 ⟨hb1,hb2⟩ ⟨hw1,hw2⟩ (by omega) km (by unfold ssN;rw [hc];rfl) e2 e3 d1 d2 b0 ?_ ?_ (rs_ok lw fw lm fm n ls f r 2 fc (soN 2 b) (soF 2 b) ok hb (by omega) hq.1 (by omega) (fun i hi=>by rw [hL i hi];have:=hB i hi;omega)) (rs_ok lw fw lm fm n ls f r 2 fc (soN 2 b) (soF 2 b) ok hb (by omega) hq.1 (by omega) (fun i hi=>by rw [hH i hi];have:=hB i hi;omega)))
          · rw [b1];exact rs_bl p1 (fun k hk=>by rw [hL k hk];exact lo_sel c2 hk)
          · rw [b2];exact rs_bl p1 (fun k hk=>by rw [hH k hk];exact hi_sel c2 hk)
        · have hL:∀ i,i<3→(gotRow [stF lw fw lm fm f fc 0 0,stF lw fw lm fm f fc 1 0,stF lw fw lm fm f fc 2 0] 1) i 0=loS lw fw lm fm f fc i:=fun i hi=>by
            have:i=0∨i=1∨i=2:=by omega
            rcases this with rfl | rfl | rfl<;>rfl
          have hH:∀ i,i<3→(gotRow [stF lw fw lm fm f fc 0 1,stF lw fw lm fm f fc 1 1,stF lw fw lm fm f fc 2 1] 1) i 0=hiS lw fw lm fm f fc i:=fun i hi=>by
            have:i=0∨i=1∨i=2:=by omega
            rcases this with rfl | rfl | rfl<;>rfl
          obtain ⟨e2,d1⟩:=dy_lo lw fw lm fm n ls f r 3 fc hc ok hL
          obtain ⟨e3,d2⟩:=dy_hi lw fw lm fm n ls f r 3 fc hc ok hH
          have hb:=so_hb (nc:=3) (by omega) (by omega) ⟨hb1,hb2⟩
          obtain ⟨p0,p1⟩:=hb_get hb
          have km:soN 3 b≤6:=by
            by_cases z:biN (soM 3 b)=0
            · rw [(so_z z).1];omega
            · rw [(so_n z).1];exact biN_le _
          obtain ⟨b0,b1,b2⟩:=bd_so lw fw lm fm n ls f r 3 fc (soN 3 b) (soF 3 b) (w:=Int.tmod w 100) hc hb hq.1 (by omega)
          refine con_runV drawnC XP_ok rfl (das:=[.st [.sl 1 lw fw,.sl 1 lm fm,.rr 1 n ls f,.i .i64 r,.sl 5 3 fc],.one (.i .u8 b),.one (.i .u8 w)]) (pe3 lw fw lm fm n ls f r fc b w hth hs hc c1 ⟨hb1,hb2⟩ ⟨hw1,hw2⟩ (by omega) km (by unfold ssN;rw [hc];rfl) e2 e3 d1 d2 b0 ?_ ?_ (rs_ok lw fw lm fm n ls f r 3 fc (soN 3 b) (soF 3 b) ok hb (by omega) hq.1 (by omega) (fun i hi=>by rw [hL i hi];have:=hB i hi;omega)) (rs_ok lw fw lm fm n ls f r 3 fc (soN 3 b) (soF 3 b) ok hb (by omega) hq.1 (by omega) (fun i hi=>by rw [hH i hi];have:=hB i hi;omega)))
          · rw [b1];exact rs_bl p1 (fun k hk=>by rw [hL k hk];exact lo_sel c2 hk)
          · rw [b2];exact rs_bl p1 (fun k hk=>by rw [hH k hk];exact hi_sel c2 hk)
        · have hL:∀ i,i<4→(gotRow [stF lw fw lm fm f fc 0 0,stF lw fw lm fm f fc 1 0,stF lw fw lm fm f fc 2 0,stF lw fw lm fm f fc 3 0] 1) i 0=loS lw fw lm fm f fc i:=fun i hi=>by
            have:i=0∨i=1∨i=2∨i=3:=by omega
            rcases this with rfl | rfl | rfl | rfl<;>rfl
          have hH:∀ i,i<4→(gotRow [stF lw fw lm fm f fc 0 1,stF lw fw lm fm f fc 1 1,stF lw fw lm fm f fc 2 1,stF lw fw lm fm f fc 3 1] 1) i 0=hiS lw fw lm fm f fc i:=fun i hi=>by
            have:i=0∨i=1∨i=2∨i=3:=by omega
            rcases this with rfl | rfl | rfl | rfl<;>rfl
          obtain ⟨e2,d1⟩:=dy_lo lw fw lm fm n ls f r 4 fc hc ok hL
          obtain ⟨e3,d2⟩:=dy_hi lw fw lm fm n ls f r 4 fc hc ok hH
          have hb:=so_hb (nc:=4) (by omega) (by omega) ⟨hb1,hb2⟩
          obtain ⟨p0,p1⟩:=hb_get hb
          have km:soN 4 b≤6:=by
            by_cases z:biN (soM 4 b)=0
            · rw [(so_z z).1];omega
            · rw [(so_n z).1];exact biN_le _
          obtain ⟨b0,b1,b2⟩:=bd_so lw fw lm fm n ls f r 4 fc (soN 4 b) (soF 4 b) (w:=Int.tmod w 100) hc hb hq.1 (by omega)
          refine con_runV drawnC XP_ok rfl (das:=[.st [.sl 1 lw fw,.sl 1 lm fm,.rr 1 n ls f,.i .i64 r,.sl 5 4 fc],.one (.i .u8 b),.one (.i .u8 w)]) (pe4 lw fw lm fm n ls f r fc b w hth hs hc c1 ⟨hb1,hb2⟩ ⟨hw1,hw2⟩ (by omega) km (by unfold ssN;rw [hc];rfl) e2 e3 d1 d2 b0 ?_ ?_ (rs_ok lw fw lm fm n ls f r 4 fc (soN 4 b) (soF 4 b) ok hb (by omega) hq.1 (by omega) (fun i hi=>by rw [hL i hi];have:=hB i hi;omega)) (rs_ok lw fw lm fm n ls f r 4 fc (soN 4 b) (soF 4 b) ok hb (by omega) hq.1 (by omega) (fun i hi=>by rw [hH i hi];have:=hB i hi;omega)))
          · rw [b1];exact rs_bl p1 (fun k hk=>by rw [hL k hk];exact lo_sel c2 hk)
          · rw [b2];exact rs_bl p1 (fun k hk=>by rw [hH k hk];exact hi_sel c2 hk)
        · have hL:∀ i,i<5→(gotRow [stF lw fw lm fm f fc 0 0,stF lw fw lm fm f fc 1 0,stF lw fw lm fm f fc 2 0,stF lw fw lm fm f fc 3 0,stF lw fw lm fm f fc 4 0] 1) i 0=loS lw fw lm fm f fc i:=fun i hi=>by
            have:i=0∨i=1∨i=2∨i=3∨i=4:=by omega
            rcases this with rfl | rfl | rfl | rfl | rfl<;>rfl
          have hH:∀ i,i<5→(gotRow [stF lw fw lm fm f fc 0 1,stF lw fw lm fm f fc 1 1,stF lw fw lm fm f fc 2 1,stF lw fw lm fm f fc 3 1,stF lw fw lm fm f fc 4 1] 1) i 0=hiS lw fw lm fm f fc i:=fun i hi=>by
            have:i=0∨i=1∨i=2∨i=3∨i=4:=by omega
            rcases this with rfl | rfl | rfl | rfl | rfl<;>rfl
          obtain ⟨e2,d1⟩:=dy_lo lw fw lm fm n ls f r 5 fc hc ok hL
          obtain ⟨e3,d2⟩:=dy_hi lw fw lm fm n ls f r 5 fc hc ok hH
          have hb:=so_hb (nc:=5) (by omega) (by omega) ⟨hb1,hb2⟩
          obtain ⟨p0,p1⟩:=hb_get hb
          have km:soN 5 b≤6:=by
            by_cases z:biN (soM 5 b)=0
            · rw [(so_z z).1];omega
            · rw [(so_n z).1];exact biN_le _
          obtain ⟨b0,b1,b2⟩:=bd_so lw fw lm fm n ls f r 5 fc (soN 5 b) (soF 5 b) (w:=Int.tmod w 100) hc hb hq.1 (by omega)
          refine con_runV drawnC XP_ok rfl (das:=[.st [.sl 1 lw fw,.sl 1 lm fm,.rr 1 n ls f,.i .i64 r,.sl 5 5 fc],.one (.i .u8 b),.one (.i .u8 w)]) (pe5 lw fw lm fm n ls f r fc b w hth hs hc c1 ⟨hb1,hb2⟩ ⟨hw1,hw2⟩ (by omega) km (by unfold ssN;rw [hc];rfl) e2 e3 d1 d2 b0 ?_ ?_ (rs_ok lw fw lm fm n ls f r 5 fc (soN 5 b) (soF 5 b) ok hb (by omega) hq.1 (by omega) (fun i hi=>by rw [hL i hi];have:=hB i hi;omega)) (rs_ok lw fw lm fm n ls f r 5 fc (soN 5 b) (soF 5 b) ok hb (by omega) hq.1 (by omega) (fun i hi=>by rw [hH i hi];have:=hB i hi;omega)))
          · rw [b1];exact rs_bl p1 (fun k hk=>by rw [hL k hk];exact lo_sel c2 hk)
          · rw [b2];exact rs_bl p1 (fun k hk=>by rw [hH k hk];exact hi_sel c2 hk)
        · have hL:∀ i,i<6→(gotRow [stF lw fw lm fm f fc 0 0,stF lw fw lm fm f fc 1 0,stF lw fw lm fm f fc 2 0,stF lw fw lm fm f fc 3 0,stF lw fw lm fm f fc 4 0,stF lw fw lm fm f fc 5 0] 1) i 0=loS lw fw lm fm f fc i:=fun i hi=>by
            have:i=0∨i=1∨i=2∨i=3∨i=4∨i=5:=by omega
            rcases this with rfl | rfl | rfl | rfl | rfl | rfl<;>rfl
          have hH:∀ i,i<6→(gotRow [stF lw fw lm fm f fc 0 1,stF lw fw lm fm f fc 1 1,stF lw fw lm fm f fc 2 1,stF lw fw lm fm f fc 3 1,stF lw fw lm fm f fc 4 1,stF lw fw lm fm f fc 5 1] 1) i 0=hiS lw fw lm fm f fc i:=fun i hi=>by
            have:i=0∨i=1∨i=2∨i=3∨i=4∨i=5:=by omega
            rcases this with rfl | rfl | rfl | rfl | rfl | rfl<;>rfl
          obtain ⟨e2,d1⟩:=dy_lo lw fw lm fm n ls f r 6 fc hc ok hL
          obtain ⟨e3,d2⟩:=dy_hi lw fw lm fm n ls f r 6 fc hc ok hH
          have hb:=so_hb (nc:=6) (by omega) (by omega) ⟨hb1,hb2⟩
          obtain ⟨p0,p1⟩:=hb_get hb
          have km:soN 6 b≤6:=by
            by_cases z:biN (soM 6 b)=0
            · rw [(so_z z).1];omega
            · rw [(so_n z).1];exact biN_le _
          obtain ⟨b0,b1,b2⟩:=bd_so lw fw lm fm n ls f r 6 fc (soN 6 b) (soF 6 b) (w:=Int.tmod w 100) hc hb hq.1 (by omega)
          refine con_runV drawnC XP_ok rfl (das:=[.st [.sl 1 lw fw,.sl 1 lm fm,.rr 1 n ls f,.i .i64 r,.sl 5 6 fc],.one (.i .u8 b),.one (.i .u8 w)]) (pe6 lw fw lm fm n ls f r fc b w hth hs hc c1 ⟨hb1,hb2⟩ ⟨hw1,hw2⟩ (by omega) km (by unfold ssN;rw [hc];rfl) e2 e3 d1 d2 b0 ?_ ?_ (rs_ok lw fw lm fm n ls f r 6 fc (soN 6 b) (soF 6 b) ok hb (by omega) hq.1 (by omega) (fun i hi=>by rw [hL i hi];have:=hB i hi;omega)) (rs_ok lw fw lm fm n ls f r 6 fc (soN 6 b) (soF 6 b) ok hb (by omega) hq.1 (by omega) (fun i hi=>by rw [hH i hi];have:=hB i hi;omega)))
          · rw [b1];exact rs_bl p1 (fun k hk=>by rw [hL k hk];exact lo_sel c2 hk)
          · rw [b2];exact rs_bl p1 (fun k hk=>by rw [hH k hk];exact hi_sel c2 hk)
      · exact fin (px3 lw fw lm fm n ls f r nc fc b w hth h9 hc)
    · exact fin (px2 lw fw lm fm n ls f r nc fc b w hth h9)
  · cases hv
end
theorem ends_any {W:World} {H:Type} {enc:TypeId×Value→H} {base:Nat} {args:List Value} {ds:List (DataW H)} {p:List MemPlace} (hval:∀ (j:Nat) t v,Tryz.f3.params[j]?=some t→args[j]?=some v→Value.okWide Tryz.prog W .any base t v)
    (hA:DataW.TrodAll enc Tryz.prog W 0 (fun _=>true) true Tryz.f3.params.toList args ds p):Calls Tryz.prog 3 args.toArray W (fun e w'=>e = .returned (.bool true)∧Below W.heap.size W w'):=by
  rw [Tryz.params3] at hA hval
  obtain ⟨x0,a0,d0,_,_,_,rfl,rfl,rfl,u0,hA⟩:=trodAll_cons hA
  obtain ⟨x1,a1,d1,_,_,_,rfl,rfl,rfl,u1,hA⟩:=trodAll_cons hA
  obtain ⟨x2,a2,d2,_,_,_,rfl,rfl,rfl,u2,hA⟩:=trodAll_cons hA
  obtain ⟨rfl,rfl,rfl⟩:=trodAll_nil hA
  obtain ⟨lw,fw,lm,fm,n,ls,f,r,nc,fc,r0⟩:=store_arg u0
  obtain ⟨n1,r1,b1⟩:=arg_int (P:=Tryz.prog) (k := .u8) (by kernel_rfl) (hval 1 _ x1 rfl rfl) u1
  obtain ⟨n2,r2,b2⟩:=arg_int (P:=Tryz.prog) (k := .u8) (by kernel_rfl) (hval 2 _ x2 rfl rfl) u2
  have hcf:cf valG [.agg 5 (T.setL .lf 0 [.fz true 0 (cellsI .i64 fw) lw 1,.fz true 0 (cellsI .i64 fm) lm 1,.fz true 0 (rowsI 0 1 ls f) n 1,.int .i64 r,.fz true 0 (cellsI .i64 fc) nc 5]),.int .u8 n1,.int .u8 n2] (heap0 1)=some (true,.bool true):=by
    have q1:IntKind.u8.min=0:=by kernel_rfl
    have p1:IntKind.u8.max=255:=by kernel_rfl
    rw [q1,p1] at b1
    have q2:IntKind.u8.min=0:=by kernel_rfl
    have p2:IntKind.u8.max=255:=by kernel_rfl
    rw [q2,p2] at b2
    have hd:decide (0≤n1∧n1≤255∧0≤n2∧n2≤255)=true:=decide_eq_true (by omega)
    have e1:okL [.agg 5 (T.setL .lf 0 [.fz true 0 (cellsI .i64 fw) lw 1,.fz true 0 (cellsI .i64 fm) lm 1,.fz true 0 (rowsI 0 1 ls f) n 1,.int .i64 r,.fz true 0 (cellsI .i64 fc) nc 5]),.int .u8 n1,.int .u8 n2]=cond (cond (allI .i64 (cellsI .i64 fw) lw 1) (cond (allI .i64 (cellsI .i64 fm) lm 1) (cond (allR 0 (rowsI 0 1 ls f) n 1) (cond true (cond (allI .i64 (cellsI .i64 fc) nc 5) true false) false) false) false) false) (cond (true) (cond (true) (true) false) false) false:=by kernel_rfl
    have e2:cf valG [.agg 5 (T.setL .lf 0 [.fz true 0 (cellsI .i64 fw) lw 1,.fz true 0 (cellsI .i64 fm) lm 1,.fz true 0 (rowsI 0 1 ls f) n 1,.int .i64 r,.fz true 0 (cellsI .i64 fc) nc 5]),.int .u8 n1,.int .u8 n2] (heap0 1)=some (cond (okL [.agg 5 (T.setL .lf 0 [.fz true 0 (cellsI .i64 fw) lw 1,.fz true 0 (cellsI .i64 fm) lm 1,.fz true 0 (rowsI 0 1 ls f) n 1,.int .i64 r,.fz true 0 (cellsI .i64 fc) nc 5]),.int .u8 n1,.int .u8 n2]) (decide (0≤n1∧n1≤255∧0≤n2∧n2≤255)) false,.bool true):=by kernel_rfl
    rw [e2,e1]
    simp only [allI_cells,allR_rows,cond_true,hd]
  have hs:SpecCall Tryz.prog 3 [.agg 5 (T.setL .lf 0 [.fz true 0 (cellsI .i64 fw) lw 1,.fz true 0 (cellsI .i64 fm) lm 1,.fz true 0 (rowsI 0 1 ls f) n 1,.int .i64 r,.fz true 0 (cellsI .i64 fc) nc 5]),.int .u8 n1,.int .u8 n2] (heap0 1) (.bool true) (bump (heap0 1)):=con_ok conG _ _ _ hcf
  have hal:=al_cons r0 (al_cons r1 (al_cons r2 (show AL (renW W) [] ([]:List Value).toArray from AL.nil _)))
  exact (run_args hs hal).mono fun e w' ⟨x,R,h1,h2,h3⟩=>by cases h2;exact ⟨h1,h3⟩
theorem ends_lifted (os:Os) (started:os.Started) (H:Type) (enc:TypeId×Value→H) :
    ReturnsInHanded {} Tryz.checked os 3 .any (Rows.proofEndsSpec.pre6 enc Tryz.prog Tryz.f3 Rows.proofEndsRow.domain false) (Rows.proofEndsSpec.post enc Tryz.prog Tryz.f3 false true false false):=by
  refine returnsInHanded_of_change (C:=Tryz.checked) own started (by kernel_rfl) Tryz.func3
    (ChangeSpec.witness6 (enc:=enc) (C:=Tryz.checked) false ⟨#[],#[.agg #[.slice none 0 0,.slice none 0 0,.slice none 0 0,.int .i64 0,.slice none 0 0],.int .u8 0,.int .u8 0],[]⟩ 8 (by kernel_rfl) (by kernel_rfl) (by kernel_rfl) (by kernel_rfl)) ?_
  intro W base args ds gs before hval0 hW hcnd _
  have hW':=hW
  obtain ⟨p,q,hA0,hV,rfl,hfz,hnd⟩:=hW
  have hval:∀ (j:Nat) t v,Tryz.f3.params[j]?=some t→args.toList[j]?=some v→Value.okWide Tryz.prog W .any base t v:=fun j t v h1 h2=>hval0 j t v h1 (by simpa using h2)
  have h:=ends_any (args:=args.toList) hval hA0
  rw [show args.toList.toArray=args by simp] at h
  have hds:∃ da db dc,ds=[da,db,dc]:=by
    rw [Tryz.params3] at hA0
    obtain ⟨x0,a0,d0,_,_,_,_,rfl,_,_,hA0⟩:=trodAll_cons hA0
    obtain ⟨x1,a1,d1,_,_,_,_,rfl,_,_,hA0⟩:=trodAll_cons hA0
    obtain ⟨x2,a2,d2,_,_,_,_,rfl,_,_,hA⟩:=trodAll_cons hA0
    obtain ⟨_,rfl,_⟩:=trodAll_nil hA
    exact ⟨_,_,_,rfl⟩
  obtain ⟨da,db,dc,rfl⟩:=hds
  refine h.mono fun e W' ⟨he,hb⟩=>?_
  exact ⟨_,he,Law.law_post laidOut (tb:=4) (by kernel_rfl) Tryz.underlying4 (fun t ht=>by
    rw [Tryz.params3] at ht
    have ht:t∈[28,5,5]:=ht
    simp only [List.mem_cons,List.not_mem_nil,or_false] at ht
    rcases ht with rfl | rfl | rfl<;>exact ⟨by kernel_rfl,of_decide_eq_true (by kernel_rfl)⟩) rfl hW' rfl rfl rfl hb⟩
theorem proofEnds_holds:Rows.ProofEndsSaid :=
  OpenClaim.holds_of_wide 3 Tryz.f3 rfl rfl rfl rfl rfl rfl rfl ⟨rfl,rfl,rfl,rfl,rfl⟩ rfl rfl rfl rfl rfl (by kernel_rfl) Tryz.func3 (by kernel_rfl)
    (of_decide_eq_true (by kernel_rfl)) (by unfold Func.isWrapper;first | (rw [if_pos (by decide +kernel)];kernel_rfl) | (rw [if_neg (by decide +kernel)];exact ⟨rfl,rfl⟩))
    (fun os started H enc _=>ends_lifted os started H enc)
end BL
theorem proofEnds_holds:Rows.ProofEndsSaid:=BL.proofEnds_holds
end Go.Proofs.YtpfcfonplmhmiaaGreat
