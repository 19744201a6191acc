/- TableWider: for every input the law returns true: with wider ranges no bounds are narrower, and no mark stops having a meaning. No condition. -/
import Derived.Test.YtdgaghmjocokcaaGreatRows
import Derived.WalkKit
import Derived.Test.YtdgaghmjocokcaaGreatYTaW2
import Derived.Test.YtdgaghmjocokcaaGreatYTaM7
import Derived.Test.YtdgaghmjocokcaaGreatYTaArg
set_option linter.all false
set_option linter.unusedSimpArgs false
set_option linter.unusedVariables false
namespace Go.Proofs.YtdgaghmjocokcaaGreat
open Go Go.Ev Go.ChangeShapes Go.WideShapes Go.ChangeAt Go.RowKit
set_option maxRecDepth 1000000
noncomputable section
def valG : Val := fun das => match das with
  | [.st [.sl 1 lw fw, .sl 1 lm fm, .rr 1 n ls f], .one (.i .u8 a), .one (.i .u8 b), .one (.i .u8 c), .one (.i .u8 d), .one (.i .u8 e), .one (.i .u16 s)] => some (decide (0 ≤ a ∧ a ≤ 255 ∧ 0 ≤ b ∧ b ≤ 255 ∧ 0 ≤ c ∧ c ≤ 255 ∧ 0 ≤ d ∧ d ≤ 255 ∧ 0 ≤ e ∧ e ≤ 255 ∧ 0 ≤ s ∧ s ≤ 65535), .bool true)
  | _ => none
theorem conG : Con Tryz.prog 16 valG := by
  intro das x hv
  unfold valG at hv
  split at hv
  · rename_i lw fw lm fm n ls f a b c d e s
    have hb := congrArg Prod.fst (Option.some.inj hv)
    have hv := congrArg Prod.snd (Option.some.inj hv)
    subst hv
    have h8 := of_decide_eq_true hb
    have fin : ∀ {h : HT}, VC (runD0 Tryz.prog XL3 600 16 (enc [.st [.sl 1 lw fw, .sl 1 lm fm, .rr 1 n ls f], .one (.i .u8 a), .one (.i .u8 b), .one (.i .u8 c), .one (.i .u8 d), .one (.i .u8 e), .one (.i .u16 s)] 0) 3 (fun v => valP v (.bool true))) h → flatV (.bool true) = true ∧ ∃ v' H', SpecCall Tryz.prog 16 (enc [.st [.sl 1 lw fw, .sl 1 lm fm, .rr 1 n ls f], .one (.i .u8 a), .one (.i .u8 b), .one (.i .u8 c), .one (.i .u8 d), .one (.i .u8 e), .one (.i .u16 s)] 0) (heap0 4) v' H' ∧ valP v' (.bool true) := fun hvc =>
      con_runV drawnC XL3_ok rfl (das := [.st [.sl 1 lw fw, .sl 1 lm fm, .rr 1 n ls f], .one (.i .u8 a), .one (.i .u8 b), .one (.i .u8 c), .one (.i .u8 d), .one (.i .u8 e), .one (.i .u16 s)]) hvc
    cases hth : thB lw lm n ls with
    | false => exact fin (wa lw fw lm fm n ls f a b c d e s hth)
    | true =>
    by_cases hf : faE lw fw lm fm n ls f = 0
    · have ht : tabE lw fw lm fm n ls f = 0 := by rw [← fa_tab]; exact hf
      have ok := tabE_get ht
      have w2 := ok.w.two
      have w5 := ok.w.five
      have m2 := ok.m.two
      have m5 := ok.m.five
      have hF : (fw (Int.toNat ((lw : Int) - 1)) 0) = fw (lw - 1) 0 := by rw [last_n w2]
      have hG : (fm (Int.toNat ((lm : Int) - 1)) 0) = fm (lm - 1) 0 := by rw [last_n m2]
      have rw1 := tw_rg (a := a) (b := b) ok.w (by omega) (by omega)
      have rm1 := tw_rg (a := c) (b := d) ok.m (by omega) (by omega)
      have w0 := ok.w.inn 0 (by omega)
      have w9 := ok.w.inn (lw - 1) (by omega)
      have m0 := ok.m.inn 0 (by omega)
      have m9 := ok.m.inn (lm - 1) (by omega)
      have rw1' := rw1
      have rm1' := rm1
      unfold rgB onB at rw1' rm1'
      have t1 := tmod_bd (a := e) (b := 4) (by omega) (by omega)
      have t2 := tdiv_le (a := e) (b := 4) (by omega) (by omega)
      have t3 := tmod_bd (a := Int.tdiv e 4) (b := 4) t2.1 (by omega)
      have t4 := tdiv_le (a := e) (b := 16) (by omega) (by omega)
      have t5 := tmod_bd (a := Int.tdiv e 16) (b := 4) t4.1 (by omega)
      have t6 := tdiv_le (a := e) (b := 64) (by omega) (by omega)
      have t7 := tmod_bd (a := s) (b := 2001) (by omega) (by omega)
      have x0 : fw 0 0 ≤ (max (fw 0 0) ((twL lw fw a b) - Int.tmod e 4)) ∧ (max (fw 0 0) ((twL lw fw a b) - Int.tmod e 4)) ≤ (twL lw fw a b) := by omega
      have x1 : (twH lw fw a b) ≤ (min (fw (Int.toNat ((lw : Int) - 1)) 0) ((twH lw fw a b) + Int.tmod (Int.tdiv e 4) 4)) ∧ (min (fw (Int.toNat ((lw : Int) - 1)) 0) ((twH lw fw a b) + Int.tmod (Int.tdiv e 4) 4)) ≤ (fw (Int.toNat ((lw : Int) - 1)) 0) := by omega
      have y0 : fm 0 0 ≤ (max (fm 0 0) ((twL lm fm c d) - Int.tmod (Int.tdiv e 16) 4)) ∧ (max (fm 0 0) ((twL lm fm c d) - Int.tmod (Int.tdiv e 16) 4)) ≤ (twL lm fm c d) := by omega
      have y1 : (twH lm fm c d) ≤ (min (fm (Int.toNat ((lm : Int) - 1)) 0) ((twH lm fm c d) + Int.tdiv e 64)) ∧ (min (fm (Int.toNat ((lm : Int) - 1)) 0) ((twH lm fm c d) + Int.tdiv e 64)) ≤ (fm (Int.toNat ((lm : Int) - 1)) 0) := by omega
      have rw2 : rgB lw fw (max (fw 0 0) ((twL lw fw a b) - Int.tmod e 4)) (min (fw (Int.toNat ((lw : Int) - 1)) 0) ((twH lw fw a b) + Int.tmod (Int.tdiv e 4) 4)) := by unfold rgB onB; omega
      have rm2 : rgB lm fm (max (fm 0 0) ((twL lm fm c d) - Int.tmod (Int.tdiv e 16) 4)) (min (fm (Int.toNat ((lm : Int) - 1)) 0) ((twH lm fm c d) + Int.tdiv e 64)) := by unfold rgB onB; omega
      have b1 := bo_ok ht rw1 rm1
      have b2 := bo_ok ht rw2 rm2
      have bw := bd_wider (lw := lw) (fw := fw) (lm := lm) (fm := fm) (f := f) rw1.1 rm1.1 x0.2 x1.1 y0.2 y1.1
      have k1 := me_ok (sl := (Int.tmod s 2001)) (sh := (Int.tmod s 2001) + 9) ht rw1 (by omega)
      have k2 := me_ok (sl := (Int.tmod s 2001) - 1) (sh := (Int.tmod s 2001) + 9) ht rw2 (by omega)
      have n1 := meN_eq (sl := (Int.tmod s 2001)) (sh := (Int.tmod s 2001) + 9) ht rw1 (by omega)
      have n2 := meN_eq (sl := (Int.tmod s 2001) - 1) (sh := (Int.tmod s 2001) + 9) ht rw2 (by omega)
      have he := wc lw fw lm fm n ls f a b c d e s hth hf (th_sm hth) (by omega) (by omega) ⟨w2, w5⟩ ⟨m2, m5⟩ (lines_ln ok.w (by omega)) (lines_ln ok.m (by omega)) ⟨by omega, by omega⟩ ⟨by omega, by omega⟩ ⟨by omega, by omega⟩ ⟨by omega, by omega⟩ ⟨by omega, by omega⟩ ⟨by omega, by omega⟩
        ⟨by omega, by omega, by omega⟩ ⟨by omega, by omega, by omega⟩ ⟨by omega, by omega, by omega⟩ ⟨by omega, by omega, by omega⟩ ⟨by omega, by omega⟩ ⟨by omega, by omega⟩ ⟨by omega, by omega⟩ ⟨by omega, by omega⟩ ⟨by omega, by omega⟩ ⟨by omega, by omega⟩ ⟨by omega, by omega⟩
        b1.1 b2.1 (by rw [b1.2.1, b2.2.1]; exact bw.1) (by rw [b1.2.2, b2.2.2]; exact bw.2) (by rcases k1 with k | k; exact .inr k.2.1; exact .inl k.2.1) (by rcases k2 with k | k; exact .inr k.2.1; exact .inl k.2.1)
      refine ⟨rfl, ?_⟩
      have hc : sub [1,1,1,1,1,1,1,1,1,1,1,0,1,0] (bodyOf Tryz.prog 16) = .loop bW := by kernel_rfl
      have le1 : meN lw fw lm fm n ls f (twL lw fw a b) (twH lw fw a b) (Int.tmod s 2001) ((Int.tmod s 2001) + 9) ≤ 1000 := by rw [n1]; have := mcN_le (wl := (twL lw fw a b)) (wh := (twH lw fw a b)) (sl := (Int.tmod s 2001)) (sh := (Int.tmod s 2001) + 9) ok; omega
      have le2 : meN lw fw lm fm n ls f (max (fw 0 0) ((twL lw fw a b) - Int.tmod e 4)) (min (fw (Int.toNat ((lw : Int) - 1)) 0) ((twH lw fw a b) + Int.tmod (Int.tdiv e 4) 4)) ((Int.tmod s 2001) - 1) ((Int.tmod s 2001) + 9) ≤ 1000 := by rw [n2]; have := mcN_le (wl := (max (fw 0 0) ((twL lw fw a b) - Int.tmod e 4))) (wh := (min (fw (Int.toNat ((lw : Int) - 1)) 0) ((twH lw fw a b) + Int.tmod (Int.tdiv e 4) 4))) (sl := (Int.tmod s 2001) - 1) (sh := (Int.tmod s 2001) + 9) ok; omega
      refine con_loop2 (das := [.st [.sl 1 lw fw, .sl 1 lm fm, .rr 1 n ls f], .one (.i .u8 a), .one (.i .u8 b), .one (.i .u8 c), .one (.i .u8 d), .one (.i .u8 e), .one (.i .u16 s)]) (lv := .exit 0 ⟨[], []⟩) drawnC XL3_ok (by kernel_rfl) (by kernel_rfl) he.ok ?_ (fun a1 H1 _ => ⟨_, (wf H1).ok⟩)
      rw [hc]
      refine loop_rule (lv := .exit 0 ⟨[], []⟩) (body := bW) (fun _ e => by cases e) (meN lw fw lm fm n ls f (twL lw fw a b) (twH lw fw a b) (Int.tmod s 2001) ((Int.tmod s 2001) + 9)) (fun k => ⟨lW 33 38 (meN lw fw lm fm n ls f (twL lw fw a b) (twH lw fw a b) (Int.tmod s 2001) ((Int.tmod s 2001) + 9)) (meN lw fw lm fm n ls f (max (fw 0 0) ((twL lw fw a b) - Int.tmod e 4)) (min (fw (Int.toNat ((lw : Int) - 1)) 0) ((twH lw fw a b) + Int.tmod (Int.tdiv e 4) 4)) ((Int.tmod s 2001) - 1) ((Int.tmod s 2001) + 9)) (mkR lw fw lm fm f (twL lw fw a b) (twH lw fw a b) (Int.tmod s 2001) ((Int.tmod s 2001) + 9)) (mkR lw fw lm fm f (max (fw 0 0) ((twL lw fw a b) - Int.tmod e 4)) (min (fw (Int.toNat ((lw : Int) - 1)) 0) ((twH lw fw a b) + Int.tmod (Int.tdiv e 4) 4)) ((Int.tmod s 2001) - 1) ((Int.tmod s 2001) + 9)) k, []⟩) (fun k hk => ?_) ?_
      · refine round_of drawnC XL3_ok (wd _ _ k _ _ hk le1 le2 ?_).ok (by kernel_rfl) (by kernel_rfl)
        rw [has_t, n2]
        rw [n1] at hk
        refine (mkR_mem ok rw2.1).mpr ?_
        obtain ⟨o, y, hy, s1, s2⟩ := (mkR_mem ok rw1.1).mp ⟨k, hk, rfl⟩
        exact ⟨o, y, ⟨by omega, by omega⟩, by omega, s2⟩
      · exact round_of drawnC XL3_ok (we _ _ _ _ _ (by omega)).ok (by kernel_rfl) (by kernel_rfl)
    · exact fin (wb lw fw lm fm n ls f a b c d e s hth hf)
  · cases hv
end
theorem wider_any {W : World} {H : Type} {enc : TypeId × Value → H} {base : Nat} {args : List Value} {ds : List (DataW H)} {p : List MemPlace} (hval : ∀ (j : Nat) t v, Tryz.f16.params[j]? = some t → args[j]? = some v → Value.okWide Tryz.prog W .any base t v)
    (hA : DataW.TrodAll enc Tryz.prog W 0 (fun _ => true) true Tryz.f16.params.toList args ds p) : Calls Tryz.prog 16 args.toArray W (fun e w' => e = .returned (.bool true) ∧ Below W.heap.size W w') := by
  rw [Tryz.params16] at hA hval
  obtain ⟨x0, a0, d0, _, _, _, rfl, rfl, rfl, t0, hA⟩ := trodAll_cons hA
  obtain ⟨x1, a1, d1, _, _, _, rfl, rfl, rfl, t1, hA⟩ := trodAll_cons hA
  obtain ⟨x2, a2, d2, _, _, _, rfl, rfl, rfl, t2, hA⟩ := trodAll_cons hA
  obtain ⟨x3, a3, d3, _, _, _, rfl, rfl, rfl, t3, hA⟩ := trodAll_cons hA
  obtain ⟨x4, a4, d4, _, _, _, rfl, rfl, rfl, t4, hA⟩ := trodAll_cons hA
  obtain ⟨x5, a5, d5, _, _, _, rfl, rfl, rfl, t5, hA⟩ := trodAll_cons hA
  obtain ⟨x6, a6, d6, _, _, _, rfl, rfl, rfl, t6, hA⟩ := trodAll_cons hA
  obtain ⟨rfl, rfl, rfl⟩ := trodAll_nil hA
  obtain ⟨lw, fw, lm, fm, n, ls, f, r0⟩ := table_arg t0
  obtain ⟨n1, r1, b1⟩ := arg_int (P := Tryz.prog) (k := .u8) (by kernel_rfl) (hval 1 _ x1 rfl rfl) t1
  obtain ⟨n2, r2, b2⟩ := arg_int (P := Tryz.prog) (k := .u8) (by kernel_rfl) (hval 2 _ x2 rfl rfl) t2
  obtain ⟨n3, r3, b3⟩ := arg_int (P := Tryz.prog) (k := .u8) (by kernel_rfl) (hval 3 _ x3 rfl rfl) t3
  obtain ⟨n4, r4, b4⟩ := arg_int (P := Tryz.prog) (k := .u8) (by kernel_rfl) (hval 4 _ x4 rfl rfl) t4
  obtain ⟨n5, r5, b5⟩ := arg_int (P := Tryz.prog) (k := .u8) (by kernel_rfl) (hval 5 _ x5 rfl rfl) t5
  obtain ⟨n6, r6, b6⟩ := arg_int (P := Tryz.prog) (k := .u16) (by kernel_rfl) (hval 6 _ x6 rfl rfl) t6
  have hcf : cf valG [.agg 3 (T.setL .lf 0 [.fz true 0 (cellsI .i64 fw) lw 1, .fz true 0 (cellsI .i64 fm) lm 1, .fz true 0 (rowsI 0 1 ls f) n 1]), .int .u8 n1, .int .u8 n2, .int .u8 n3, .int .u8 n4, .int .u8 n5, .int .u16 n6] (heap0 1) = some (true, .bool true) := by
    have q1 : IntKind.u8.min = 0 := by kernel_rfl
    have p1 : IntKind.u8.max = 255 := by kernel_rfl
    rw [q1, p1] at b1
    have q2 : IntKind.u8.min = 0 := by kernel_rfl
    have p2 : IntKind.u8.max = 255 := by kernel_rfl
    rw [q2, p2] at b2
    have q3 : IntKind.u8.min = 0 := by kernel_rfl
    have p3 : IntKind.u8.max = 255 := by kernel_rfl
    rw [q3, p3] at b3
    have q4 : IntKind.u8.min = 0 := by kernel_rfl
    have p4 : IntKind.u8.max = 255 := by kernel_rfl
    rw [q4, p4] at b4
    have q5 : IntKind.u8.min = 0 := by kernel_rfl
    have p5 : IntKind.u8.max = 255 := by kernel_rfl
    rw [q5, p5] at b5
    have q6 : IntKind.u16.min = 0 := by kernel_rfl
    have p6 : IntKind.u16.max = 65535 := by kernel_rfl
    rw [q6, p6] at b6
    have hd : decide (0 ≤ n1 ∧ n1 ≤ 255 ∧ 0 ≤ n2 ∧ n2 ≤ 255 ∧ 0 ≤ n3 ∧ n3 ≤ 255 ∧ 0 ≤ n4 ∧ n4 ≤ 255 ∧ 0 ≤ n5 ∧ n5 ≤ 255 ∧ 0 ≤ n6 ∧ n6 ≤ 65535) = true := decide_eq_true (by omega)
    have e1 : okL [.agg 3 (T.setL .lf 0 [.fz true 0 (cellsI .i64 fw) lw 1, .fz true 0 (cellsI .i64 fm) lm 1, .fz true 0 (rowsI 0 1 ls f) n 1]), .int .u8 n1, .int .u8 n2, .int .u8 n3, .int .u8 n4, .int .u8 n5, .int .u16 n6] = cond (cond (allI .i64 (cellsI .i64 fw) lw 1) (cond (allI .i64 (cellsI .i64 fm) lm 1) (cond (allR 0 (rowsI 0 1 ls f) n 1) true false) false) false) true false := by kernel_rfl
    have e2 : cf valG [.agg 3 (T.setL .lf 0 [.fz true 0 (cellsI .i64 fw) lw 1, .fz true 0 (cellsI .i64 fm) lm 1, .fz true 0 (rowsI 0 1 ls f) n 1]), .int .u8 n1, .int .u8 n2, .int .u8 n3, .int .u8 n4, .int .u8 n5, .int .u16 n6] (heap0 1) = some (cond (okL [.agg 3 (T.setL .lf 0 [.fz true 0 (cellsI .i64 fw) lw 1, .fz true 0 (cellsI .i64 fm) lm 1, .fz true 0 (rowsI 0 1 ls f) n 1]), .int .u8 n1, .int .u8 n2, .int .u8 n3, .int .u8 n4, .int .u8 n5, .int .u16 n6]) (decide (0 ≤ n1 ∧ n1 ≤ 255 ∧ 0 ≤ n2 ∧ n2 ≤ 255 ∧ 0 ≤ n3 ∧ n3 ≤ 255 ∧ 0 ≤ n4 ∧ n4 ≤ 255 ∧ 0 ≤ n5 ∧ n5 ≤ 255 ∧ 0 ≤ n6 ∧ n6 ≤ 65535)) false, .bool true) := by kernel_rfl
    rw [e2, e1, allI_cells, allI_cells, allR_rows, hd]; rfl
  have hs : SpecCall Tryz.prog 16 [.agg 3 (T.setL .lf 0 [.fz true 0 (cellsI .i64 fw) lw 1, .fz true 0 (cellsI .i64 fm) lm 1, .fz true 0 (rowsI 0 1 ls f) n 1]), .int .u8 n1, .int .u8 n2, .int .u8 n3, .int .u8 n4, .int .u8 n5, .int .u16 n6] (heap0 1) (.bool true) (bump (heap0 1)) := con_ok conG _ _ _ hcf
  have hal := al_cons r0 (al_cons r1 (al_cons r2 (al_cons r3 (al_cons r4 (al_cons r5 (al_cons r6 (show AL (renW W) [] ([] : List Value).toArray from AL.nil _)))))))
  exact (run_args hs hal).mono fun e w' ⟨x, R, h1, h2, h3⟩ => by cases h2; exact ⟨h1, h3⟩
theorem wider_lifted (os : Os) (started : os.Started) (H : Type) (enc : TypeId × Value → H) :
    ReturnsInHanded {} Tryz.checked os 16 .any (Rows.tableWiderSpec.pre6 enc Tryz.prog Tryz.f16 Rows.tableWiderRow.domain false) (Rows.tableWiderSpec.post enc Tryz.prog Tryz.f16 false true false false) := by
  refine returnsInHanded_of_change (C := Tryz.checked) own started (by kernel_rfl) Tryz.func16
    (ChangeSpec.witness6 (enc := enc) (C := Tryz.checked) false ⟨#[], #[.agg #[.slice none 0 0, .slice none 0 0, .slice none 0 0], .int .u8 0, .int .u8 0, .int .u8 0, .int .u8 0, .int .u8 0, .int .u16 0], []⟩ 8 (by kernel_rfl) (by kernel_rfl) (by kernel_rfl) (by kernel_rfl)) ?_
  intro W base args ds gs before hval0 hW hcnd _
  have hW' := hW
  obtain ⟨p, q, hA0, hV, rfl, hfz, hnd⟩ := hW
  have hval : ∀ (j : Nat) t v, Tryz.f16.params[j]? = some t → args.toList[j]? = some v → Value.okWide Tryz.prog W .any base t v := fun j t v h1 h2 => hval0 j t v h1 (by simpa using h2)
  have h := wider_any (args := args.toList) hval hA0
  rw [show args.toList.toArray = args by simp] at h
  have hds : ∃ a b c d e0 f0 g0, ds = [a, b, c, d, e0, f0, g0] := by
    rw [Tryz.params16] at hA0
    obtain ⟨x0, a0, d0, _, _, _, _, rfl, _, _, hA0⟩ := trodAll_cons hA0
    obtain ⟨x1, a1, d1, _, _, _, _, rfl, _, _, hA0⟩ := trodAll_cons hA0
    obtain ⟨x2, a2, d2, _, _, _, _, rfl, _, _, hA0⟩ := trodAll_cons hA0
    obtain ⟨x3, a3, d3, _, _, _, _, rfl, _, _, hA0⟩ := trodAll_cons hA0
    obtain ⟨x4, a4, d4, _, _, _, _, rfl, _, _, hA0⟩ := trodAll_cons hA0
    obtain ⟨x5, a5, d5, _, _, _, _, rfl, _, _, hA0⟩ := trodAll_cons hA0
    obtain ⟨x6, a6, d6, _, _, _, _, rfl, _, _, hA⟩ := trodAll_cons hA0
    obtain ⟨_, rfl, _⟩ := trodAll_nil hA
    exact ⟨_, _, _, _, _, _, _, rfl⟩
  obtain ⟨a, b, c, d, e0, f0, g0, rfl⟩ := hds
  refine h.mono fun e W' ⟨he, hb⟩ => ?_
  exact ⟨_, he, Law.law_post laidOut (tb := 4) (by kernel_rfl) Tryz.underlying4 (fun t ht => by
    rw [Tryz.params16] at ht
    have ht : t ∈ [25, 5, 5, 5, 5, 5, 88] := ht
    simp only [List.mem_cons, List.not_mem_nil, or_false] at ht
    rcases ht with rfl | rfl | rfl | rfl | rfl | rfl | rfl <;> exact ⟨by kernel_rfl, of_decide_eq_true (by kernel_rfl)⟩) rfl hW' rfl rfl rfl hb⟩
theorem tableWider_holds : Rows.TableWiderSaid :=
  OpenClaim.holds_of_wide 16 Tryz.f16 rfl rfl rfl rfl rfl rfl rfl ⟨rfl, rfl, rfl, rfl, rfl⟩ rfl rfl rfl rfl rfl (by kernel_rfl) Tryz.func16 (by kernel_rfl)
    (of_decide_eq_true (by kernel_rfl)) (by unfold Func.isWrapper; first | (rw [if_pos (by decide +kernel)]; kernel_rfl) | (rw [if_neg (by decide +kernel)]; exact ⟨rfl, rfl⟩))
    (fun os started H enc _ => wider_lifted os started H enc)
#print axioms tableWider_holds
end Go.Proofs.YtdgaghmjocokcaaGreat
