/- append. -/
import Derived.Test.YtaaiocbpgpkheaaEvOps1
namespace Go.Ev
open Go

variable {P : Program}

theorem Sim.drawn {R R' : Ren} {S : Nat → Prop} {H H' : EH} {W : Nat → Prop} {w w' : World} {k : Nat} (h : Sim R R' S H H' W { w with drawn := k } w') : Sim R R' S H H' W w w' :=
  ⟨h.es, ⟨h.rx.same, h.rx.zs, h.rx.neu⟩, ⟨h.fr.os, h.fr.tape, h.fr.output, h.fr.size, h.fr.keep⟩, h.rel⟩

/-- the run of an append, down to its two ways -/
theorem run_append_in {w w' : World} {ts : Array TypeId} {ty : TypeId} {args : Array Value} {st xt elem el2 : TypeId} {a : Addr} {len cap m e : Nat} {x' : Value} {new : Array Value} (ht0 : ts[0]? = some st) (ht1 : ts[1]? = some xt)
    (ha0 : args[0]? = some (.slice (some a) len cap)) (ha1 : args[1]? = some x') (hu : P.underlying st = some (.slice elem)) (hu2 : P.underlying xt = some (.slice el2)) (he : sizeT P elem = some e) (hl : (Builtin.lenOf x').run P w = .ok m w)
    (hle : len + m ≤ cap) (hn : (Builtin.firstCells e m x').run P w = .ok new w) (hs : (storeCells (a.add (len * e)) new.toList).run P w = .ok () w') :
    (Builtin.append_ ts ty args).run P w = .ok (.slice (some a) (len + m) cap) w' := by
  unfold Builtin.append_
  simp only [ht0, ht1, ha0, ha1]
  rw [run_bind_ok (run_under hu w)]
  dsimp only
  rw [run_bind_ok (run_size he w), run_bind_ok (run_under hu2 w)]
  dsimp only
  rw [run_bind_ok (show (pure false : Sem Bool).run P w = .ok false w from rfl), if_neg (by simp), run_bind_ok hl, if_pos hle]
  simp only [Bool.not_false, if_true]
  rw [run_bind_ok hn, run_bind_ok hs]
  rfl
theorem run_append_nil {w : World} {ts : Array TypeId} {ty : TypeId} {args : Array Value} {st xt elem el2 : TypeId} {len cap m e : Nat} {x' : Value} {new : Array Value} (ht0 : ts[0]? = some st) (ht1 : ts[1]? = some xt)
    (ha0 : args[0]? = some (.slice none len cap)) (ha1 : args[1]? = some x') (hu : P.underlying st = some (.slice elem)) (hu2 : P.underlying xt = some (.slice el2)) (he : sizeT P elem = some e) (hl : (Builtin.lenOf x').run P w = .ok m w)
    (hle : len + m ≤ cap) (hn : (Builtin.firstCells e m x').run P w = .ok new w) :
    (Builtin.append_ ts ty args).run P w = .ok (.slice none (len + m) cap) w := by
  unfold Builtin.append_
  simp only [ht0, ht1, ha0, ha1]
  rw [run_bind_ok (run_under hu w)]
  dsimp only
  rw [run_bind_ok (run_size he w), run_bind_ok (run_under hu2 w)]
  dsimp only
  rw [run_bind_ok (show (pure false : Sem Bool).run P w = .ok false w from rfl), if_neg (by simp), run_bind_ok hl, if_pos hle]
  simp only [Bool.not_false, if_true]
  rw [run_bind_ok hn]
  rfl
theorem run_append_grow {w : World} {ts : Array TypeId} {ty : TypeId} {args : Array Value} {st xt elem el2 : TypeId} {base : Option Addr} {len cap m e : Nat} {x' : Value} {old new : Array Value} (ht0 : ts[0]? = some st) (ht1 : ts[1]? = some xt)
    (ha0 : args[0]? = some (.slice base len cap)) (ha1 : args[1]? = some x') (hu : P.underlying st = some (.slice elem)) (hu2 : P.underlying xt = some (.slice el2)) (he : sizeT P elem = some e) (hl : (Builtin.lenOf x').run P w = .ok m w)
    (hlt : ¬ len + m ≤ cap) (hok : AppOk P elem e (len + m)) (hold : (Builtin.firstCells e len (.slice base len cap)).run P { w with drawn := w.drawn + 1 } = .ok old { w with drawn := w.drawn + 1 })
    (hn : (Builtin.firstCells e m x').run P { w with drawn := w.drawn + 1 } = .ok new { w with drawn := w.drawn + 1 }) :
    ∃ (newCap : Nat) (rest : Array Value), len + m ≤ newCap ∧ rest.size = (newCap - (len + m)) * e ∧ (Builtin.append_ ts ty args).run P w = (do pure (Value.slice (some (← newRow elem (old ++ new ++ rest))) (len + m) newCap) : Sem Value).run P { w with drawn := w.drawn + 1 } := by
  obtain ⟨i, z, hi, hb, hz, hze⟩ := hok.info
  obtain ⟨nc, c1, c2⟩ := run_choose_cap (P := P) (w := w) (need := len + m) (old := cap) (elem := elem)
  have hzv : ∀ w, (zeroValue elem).run P w = .ok z w := fun w => by
    unfold zeroValue; rw [run_bind_ok (run_info hi w), hz]; rfl
  refine ⟨nc, Builtin.zeroCells z.cells (nc - (len + m)), c2, by rw [zeroCells_size, hze], ?_⟩
  have hle := hok.le
  have hn1 : ¬ (((len + m : Nat) : Int) > IntKind.i64.max ∧ (false = true ∨ i.bytes = 0)) := by
    have e1 : IntKind.i64.max = 9223372036854775807 := by decide
    rw [e1]; omega
  have hn2 : ¬ (Builtin.nextslicecap (len + m) cap * i.bytes > 2 ^ 48) := by
    have h1 := nextcap_le (need := len + m) (old := cap) (by omega)
    have h2 : Builtin.nextslicecap (len + m) cap * i.bytes ≤ (2 * (len + m) + 200) * i.bytes := Nat.mul_le_mul_right _ h1
    omega
  unfold Builtin.append_
  simp only [ht0, ht1, ha0, ha1]
  rw [run_bind_ok (run_under hu w)]
  dsimp only
  rw [run_bind_ok (run_size he w), run_bind_ok (run_under hu2 w)]
  dsimp only
  rw [run_bind_ok (show (pure false : Sem Bool).run P w = .ok false w from rfl), if_neg (by simp), run_bind_ok hl, if_neg hlt]
  rw [run_bind_ok (run_info hi w), if_neg hn1]
  try dsimp only
  rw [run_bind_ok (run_info hi w), if_neg hn2]
  try dsimp only
  rw [run_bind_ok c1, run_bind_ok (run_info hi _), run_bind_ok (run_askRoom _ _), run_bind_ok hold]
  simp only [Bool.not_false, if_true]
  rw [run_bind_ok hn, run_bind_ok (hzv _)]

theorem good_append {R : Ren} {S : Nat → Prop} {H H' : EH} {w : World} (hr : Rel R S H w) (hw : WF H) (hf : Free R H H') {ts : Array TypeId} {ty : TypeId} {args : Array Value} {st xt : TypeId} {s x v : V} {s' x' : Value}
    (ht0 : ts[0]? = some st) (ht1 : ts[1]? = some xt) (ha0 : args[0]? = some s') (ha1 : args[1]? = some x') (hs : VR R s s') (hx : VR R x x') (h : evAppend P st xt s x H = some (v, H'))
    (hS : ∀ g, g ∈ grpV H s ∨ g ∈ grpV H x → S g) : ∃ W : Nat → Prop, (∀ g, W g → g ∈ grpV H s) ∧ Good P R S H w (Builtin.append_ ts ty args) v H' W := by
  unfold evAppend at h
  split at h
  · rename_i elem el2 hu hu2
    cases he : sizeT P elem with
    | none => rw [he] at h; cases h
    | some e =>
      rw [he] at h
      simp only at h
      cases hxs : sliceCells H e x with
      | none => rw [hxs] at h; cases h
      | some xs =>
        rw [hxs] at h
        simp only at h
        cases hok : appOk P elem e (Nat.add (lenS s) xs.m) with
        | false => rw [hok] at h; cases h
        | true =>
          rw [hok] at h
          have hok' := appOk_some hok
          have hpos := hok'.pos
          change H.appendV e s xs = some (v, H') at h
          obtain ⟨hl, hxn, new, hn, hnz, hnc⟩ := run_first (P := P) hr hx hxs (fun g hg => hS g (.inr hg))
          have hdr : Rel R S H { w with drawn := w.drawn + 1 } := ⟨hr.img, fun b o r d a c => (hr.obj b o r d a c).mono (.refl R) c rfl id id, hr.inj⟩
          obtain ⟨_, _, new2, hn2, hnz2, hnc2⟩ := run_first (P := P) hdr hx hxs (fun g hg => hS g (.inr hg))
          unfold EH.appendV at h
          rw [cond_beq] at h
          by_cases hm0 : xs.m = 0
          · rw [if_pos hm0] at h
            rw [hm0] at hl hn
            have hne : new = #[] := by
              apply Array.eq_empty_of_size_eq_zero; rw [hnz, hxn, hm0]; simp
            refine ⟨fun _ => False, fun _ h => h.elim, ?_⟩
            cases hs with
            | nilSlice =>
              cases h
              exact ⟨_, w, R, run_append_nil ht0 ht1 ha0 ha1 hu hu2 he hl (by simp) hn, .nilSlice, .refl hw hr⟩
            | slice hm ho hl2 hz =>
              cases h
              exact ⟨_, w, R, run_append_in ht0 ht1 ha0 ha1 hu hu2 he hl (by simpa using hl2) hn (w' := w) (by rw [hne]; rfl), .slice hm ho hl2 hz, .refl hw hr⟩
            | _ => cases h
          · rw [if_neg hm0] at h
            have hm1 : 1 ≤ xs.m * e := Nat.mul_pos (by omega) hpos
            cases hs with
            | nilSlice =>
              refine ⟨fun _ => False, fun _ h => h.elim, ?_⟩
              simp only at h
              cases hcp : copyT xs.c xs.n xs.off 0 .lf with
              | none => rw [hcp] at h; cases h
              | some c' =>
                rw [hcp] at h
                simp only at h
                unfold EH.newRow at h
                rw [new_eq] at h
                cases h
                obtain ⟨nc, rest, k1, k2, k3⟩ := run_append_grow (P := P) (ty := ty) ht0 ht1 ha0 ha1 hu hu2 he hl (by omega) (by simpa [lenS] using hok') (old := #[]) rfl hn2
                obtain ⟨q1, q2⟩ := copyT_new hcp
                obtain ⟨w', R', e1, e2, e3, e4⟩ := sim_row (P := P) (n := xs.n) (c := c') (cs := #[] ++ new2 ++ rest) hdr hw (hf _ (Nat.le_refl _) (Nat.lt_succ_self _)) (fun i hi => by
                  obtain ⟨a, b, z1, z2, z3, z4⟩ := hnc2 i hi
                  refine ⟨a, b, by have := q1 i hi a z1; rwa [Nat.zero_add] at this, z2, ?_, z4⟩
                  rw [Array.getElem?_append_left (by simp; omega)]; simpa using z3) elem
                refine ⟨_, w', R', by rw [k3, run_bind_ok e1]; rfl, ?_, e2.drawn⟩
                have hz : 0 + nc * e ≤ R'.zs w.heap.size := by
                  show _ ≤ R'.zs ({ w with drawn := w.drawn + 1 } : World).heap.size
                  rw [e4]
                  simp only [Array.size_append, Array.size_empty, k2, hnz2, hxn]
                  have : nc * e = (nc - (0 + xs.m)) * e + xs.m * e := by rw [← Nat.add_mul]; congr 1; omega
                  omega
                have hv : VR R' (.slice H.next 0 (0 + xs.m) e) (.slice (some ⟨w.heap.size, 0, none⟩) (0 + xs.m) nc) := .slice e3 (fun _ => rfl) k1 hz
                rw [Nat.zero_add] at hv ⊢
                exact hv
            | slice hm ho hl2 hz =>
              rename_i b off len e' r d o cap
              simp only [cond_beq] at h
              split at h
              · rename_i ee
                subst ee
                unfold appB at h
                cases hb : H.block b with
                | no => rw [hb] at h; cases h
                | mk c lo sz g =>
                  rw [hb] at h
                  simp only [fN_eq, cond_ble] at h
                  split at h
                  · rename_i q1
                    split at h
                    · rename_i q2
                      have q2' : off + len * e ≤ sz := q2
                      cases hcp : copyT xs.c xs.n xs.off (Nat.add off (Nat.mul len e)) c with
                      | none => rw [hcp] at h; cases h
                      | some c' =>
                        rw [hcp] at h
                        simp only at h
                        unfold appV at h
                        rw [fN_eq] at h
                        cases h
                        have hcp' : copyT xs.c xs.n xs.off (off + len * e) c = some c' := hcp
                        obtain ⟨z1, z2⟩ := copyT_new hcp'
                        obtain ⟨hbo, hbv⟩ := block_some hb
                        have hg : grpV H (.slice b off len e) = [g] := by show grpB H b = _; unfold grpB; rw [hbo]
                        have hSg : S g := hS g (.inl (by rw [hg]; simp))
                        obtain ⟨cs, t, fz, a1, a2, a3, a4⟩ := hr.row hb hm hSg
                        refine ⟨fun x => x = g, fun x hx => by subst hx; rw [hg]; simp, ?_⟩
                        have hlen : lenS (.slice b off len e) = len := rfl
                        rw [hlen] at hok'
                        have hok2 : AppOk P elem e (len + xs.m) := hok'
                        have hzl : o + cap * e ≤ cs.size := by rw [a2]; exact hz
                        have hlec : len * e ≤ cap * e := Nat.mul_le_mul_right _ hl2
                        have hnn : off + len * e < off + len * e + xs.n := by omega
                        by_cases hfit : len + xs.m ≤ cap
                        · have hcap : cap ≠ 0 := by omega
                          have ho' := ho hcap
                          have hin : o + len * e + xs.n ≤ cs.size := by
                            have h1 : (len + xs.m) * e ≤ cap * e := Nat.mul_le_mul_right _ hfit
                            rw [Nat.add_mul] at h1; omega
                          obtain ⟨w', cs', e1, e2, e3, e4⟩ := run_stores (P := P) r t fz a3 new.toList (o + len * e) 0 cs w a1 (by simp [hnz]; omega) (fun v hv => by
                            obtain ⟨i, hi, rfl⟩ := List.getElem_of_mem hv
                            obtain ⟨x1, y1, g1, g2, g3, g4⟩ := hnc i (by simp at hi; omega)
                            have g5 : new[i]? = some (new.toList[i]) := by simp [show i < new.size by simpa using hi]
                            rw [g5] at g3; cases g3; exact g4.oneCell g2)
                          have hln : new.toList.length = xs.n := by simpa using hnz
                          rw [hln] at e4
                          obtain ⟨R', s1, s2, s3⟩ := sim_append (w' := w') (off := off) (n := off + len * e) (sz' := off + len * e + xs.n) (c' := c') (r' := r) (d' := d) (cs' := cs') (t := t) (fz := fz) hr hw (hf _ (Nat.le_refl _) (Nat.lt_succ_self _)) hbo hbv hm q2' hnn a3
                            (.inr ⟨rfl, rfl, e2.size, e3.trans a2, e2.old, fun cs0 t2 fz2 h0 k hk => by rw [a1] at h0; cases h0; rw [e4, if_neg (by omega)]⟩) e2.neu e2.os e2.tape e2.output
                            (fun R' hle i hi hj => by
                              by_cases hi2 : i < off + len * e
                              · obtain ⟨k0, xx, yy, k1, k2, k3, k4⟩ := a4 i (Nat.le_trans q1 hi) (by omega)
                                refine ⟨k0, xx, yy, (z2 i hi2).trans k1, k2, ?_, k4.mono hle⟩
                                rw [e4, if_neg (by omega)]; exact k3
                              · obtain ⟨xx, yy, k1, k2, k3, k4⟩ := hnc (i - (off + len * e)) (by omega)
                                have k5 := z1 (i - (off + len * e)) (by omega) xx k1
                                rw [show off + len * e + (i - (off + len * e)) = i by omega] at k5
                                refine ⟨by omega, xx, yy, k5, k2, ?_, k4.mono hle⟩
                                rw [e4, if_pos (by omega), show i - d - (o + len * e + 0) = i - (off + len * e) by omega]
                                simpa using k3)
                          refine ⟨_, w', R', run_append_in ht0 ht1 ha0 ha1 hu hu2 he hl hfit hn (w' := w') (by rw [add_none]; exact e1), .slice s2 (fun _ => ho') hfit ?_, s1⟩
                          rw [s3, e3]; exact hzl
                        · have hold : ∀ w2 : World, w2.heap = w.heap → (Builtin.firstCells e len (.slice (some ⟨r, o, none⟩) len cap)).run P w2 = .ok (cs.extract o (o + len * e)) w2 := fun w2 hw2 => by
                            show (loadCells ⟨r, o, none⟩ (len * e)).run P w2 = _
                            exact run_loads (by rw [hw2]; exact a1) (by omega)
                          obtain ⟨nc, rest, k1, k2, k3⟩ := run_append_grow (P := P) (ty := ty) ht0 ht1 ha0 ha1 hu hu2 he hl hfit hok2 (hold _ rfl) hn2
                          have hosz : (cs.extract o (o + len * e)).size = len * e := by simp; omega
                          have hco : len * e ≠ 0 → o + d = off := fun h0 => ho fun hc => by subst hc; have : len = 0 := by omega
                                                                                            subst this; simp at h0
                          obtain ⟨R', s1, s2, s3⟩ := sim_append (w := { w with drawn := w.drawn + 1 }) (w' := { ({ w with drawn := w.drawn + 1 } : World) with heap := w.heap.push (.cells (cs.extract o (o + len * e) ++ new2 ++ rest) elem) }) (off := off) (n := off + len * e) (sz' := off + len * e + xs.n) (c' := c')
                            (r' := w.heap.size) (d' := off) (cs' := cs.extract o (o + len * e) ++ new2 ++ rest) (t := elem) (fz := (0, 0)) hdr hw (hf _ (Nat.le_refl _) (Nat.lt_succ_self _)) hbo hbv hm q2' hnn (fun i hi => by simp at hi)
                            (.inl ⟨rfl, by simp, fun q hq => by simp only; rw [Array.getElem?_push, if_neg (Nat.ne_of_lt hq)]⟩) (by simp) rfl rfl rfl
                            (fun R' hle i hi hj => by
                              refine ⟨hi, ?_⟩
                              by_cases hi2 : i < off + len * e
                              · obtain ⟨k0, xx, yy, k1, k2, k3, k4⟩ := a4 i (Nat.le_trans q1 hi) (by omega)
                                have hod := hco (by omega)
                                refine ⟨xx, yy, (z2 i hi2).trans k1, k2, ?_, k4.mono hle⟩
                                rw [Array.getElem?_append_left (by simp; omega), Array.getElem?_append_left (by omega), Array.getElem?_extract, if_pos (by omega), ← k3]
                                congr 1; omega
                              · obtain ⟨xx, yy, k1, k2, k3, k4⟩ := hnc2 (i - (off + len * e)) (by omega)
                                have k5 := z1 (i - (off + len * e)) (by omega) xx k1
                                rw [show off + len * e + (i - (off + len * e)) = i by omega] at k5
                                refine ⟨xx, yy, k5, k2, ?_, k4.mono hle⟩
                                rw [Array.getElem?_append_left (by simp; omega), Array.getElem?_append_right (by omega), ← k3]
                                congr 1; omega)
                          refine ⟨_, _, R', by rw [k3]; rfl, .slice s2 (fun _ => Nat.zero_add _) k1 ?_, s1.drawn⟩
                          rw [s3]
                          simp only [Array.size_append, hosz, hnz2, hxn, k2]
                          have : nc * e = (nc - (len + xs.m)) * e + (len + xs.m) * e := by rw [← Nat.add_mul]; congr 1; omega
                          rw [Nat.add_mul] at this
                          omega
                    · cases h
                  · cases h
              · cases h
            | _ => cases h
  · cases h
end Go.Ev
