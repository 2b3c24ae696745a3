/- The contract of l03DrawAny. -/
import Derived.Test.YtlheppblioglpaaDrawM
import Derived.Deep.LoopGhost
namespace Go.Proofs.Ytlheppblioglpaa.Trk
open Go.ChangeShapes Go.WideShapes Go.ChangeAt Go.RowKit
open Go.Proofs.Ytlheppblioglpaa.Num Go.Proofs.Ytlheppblioglpaa.Kit Go.Proofs.Ytlheppblioglpaa.Pts Go.Proofs.Ytlheppblioglpaa.Draw
set_option linter.unusedVariables false
set_option linter.unusedSimpArgs false

set_option maxRecDepth 100000 in
set_option maxHeartbeats 2000000 in
theorem drawAnyT_any (B : Nat) (w : World) (hs : Src w B) : Calls Try.prog 51 #[.pointer (some ⟨B, 0, none⟩)] w (AnyT B w) := by
  have hB := hs.lt
  have hn0 : w.heap.size ≠ B := by omega
  go_enter Try.func51, Try.ntmps51
  go_wp2_with fail
  refine (draw_any _ _ (by repeat (first | with_reducible assumption | with_reducible apply Src.alloc | with_reducible apply Src.drew | with_reducible apply Src.drewN))).mono ?_
  rintro e w1 ⟨v, fs, rfl, h2, h8, hO, hs1, hc1⟩
  obtain ⟨a, cap, rfl, hcap, hF, hg⟩ := hO.fxs
  rcases hg with hg | ⟨g, rfl, hg, hOwn⟩
  · rw [hg] at h2; simp at h2
  have hI := hOwn.ints
  have hgl : g < w1.heap.size := World.block_lt_of_cell? w1 _ (hOwn 0 (by omega)).1.1
  simp at hg
  have R1 := ((Box.new (w := w) (vs := [.slice none 0 0]) (t := 46) rfl).chg hc1 hn0)
  generalize fs.length = n at *
  have hgB : g ≠ B := by omega
  have hTB : w1.heap.size ≠ B := by omega
  have T1 := Box.new (w := w1) (vs := [.slice (some ⟨g, 0, none⟩) n cap]) (t := 46) rfl
  have C1 := (((Chg.refl B w).alloc (.cells #[.slice none 0 0] 46)).trans hc1).alloc (.cells #[.slice (some ⟨g, 0, none⟩) n cap] 46)
  clear hO hF hOwn hc1
  go_wp2_with fail
  refine (next_pos _ _ _ (hs1.alloc _) (by omega)).mono ?_
  rintro e w2 ⟨r, rfl, r0, r1, hs2, hc2⟩
  obtain ⟨k, rfl⟩ := Int.eq_ofNat_of_zero_le r0
  have I2 := (hI.ext ((Ext.refl _).alloc _)).chg hc2 hgB
  have R2 := (R1.alloc _).chg hc2 hn0
  have T2 := T1.chg hc2 hTB
  have C2 := C1.trans hc2
  clear hI R1 T1 C1 hs1 hc2
  go_wp2_with fail
  refine (next_pos _ _ _ hs2 (by omega)).mono ?_
  rintro e w3 ⟨q, rfl, q0, q1, hs3, hc3⟩
  have I3 := Lib.hid (I2.chg hc3 hgB)
  have R3 := Lib.hid (R2.chg hc3 hn0)
  have T3 := Lib.hid (T2.chg hc3 hTB)
  have C3 := Lib.hid (C2.trans hc3)
  have S3 := Lib.hid hs3
  clear I2 R2 T2 C2 hs2 hs3 hc3
  obtain ⟨t0, tf⟩ := T3.out 0 _ rfl
  obtain ⟨rr0, rf⟩ := R3.out 0 _ rfl
  have ki : (k : Int) < (n : Int) := by omega
  have k0 : (0 : Int) ≤ (k : Int) := by omega
  have ni : (1 : Int) ≤ (cap : Int) := by omega
  have nT : w1.heap.size ≠ w.heap.size := by omega
  have oth : ∀ (W : World) (a b : Addr) (u : Value), a.block ≠ b.block → (W.setCell a u).cell? b = W.cell? b := fun W a b u h => World.cell?_setCell_other _ _ _ _ (fun e => h (by rw [e]))
  rcases (show q = 0 ∨ q = 1 ∨ q = 2 ∨ q = 3 ∨ q = 4 ∨ (q ≠ 0 ∧ q ≠ 1 ∧ q ≠ 2 ∧ q ≠ 3 ∧ q ≠ 4) by omega) with rfl | rfl | rfl | rfl | rfl | ⟨e0, e1, e2, e3, e4⟩
  · go_wp2
    exact anyT_done (F := w3.setCell ⟨w1.heap.size, 0, none⟩ (.slice (some ⟨g, 0, none⟩) 1 cap)) (by rw [oth _ _ _ _ nT]; exact rr0) hB (by omega) (by omega) (by omega) (by omega) ((I3.out.less (by omega)).chg ((Chg.refl _ _).setCell 0 _) (by omega)) (S3.out.setCell (by simp; omega) _) (C3.out.setNew (by simp; omega) _) rfl
  · have T1 : ∀ r : Int, 0 ≤ r → r < 4 → ∃ v : Int, (#[Value.int .i64 (-1), Value.int .i64 0, Value.int .i64 1000000001, Value.int .i64 300] : Array Value)[r.toNat]? = some (.int .i64 v) ∧ (∀ (h : r.toNat < [Value.int .i64 (-1), Value.int .i64 0, Value.int .i64 1000000001, Value.int .i64 300].length), [Value.int .i64 (-1), Value.int .i64 0, Value.int .i64 1000000001, Value.int .i64 300][r.toNat]'h = .int .i64 v) := fun r h0 h4 => by
      obtain ⟨m, rfl⟩ := Int.eq_ofNat_of_zero_le h0
      rw [Int.toNat_natCast]
      rcases (show m = 0 ∨ m = 1 ∨ m = 2 ∨ m = 3 by omega) with rfl | rfl | rfl | rfl
      · exact ⟨_, rfl, fun _ => rfl⟩
      · exact ⟨_, rfl, fun _ => rfl⟩
      · exact ⟨_, rfl, fun _ => rfl⟩
      · exact ⟨_, rfl, fun _ => rfl⟩
    obtain ⟨⟨z, d0⟩, f0⟩ := I3.out (k * 3) (by omega)
    have t9 := fun A => ((Ext.refl w3).alloc A).cellOf t0
    go_wp2_with fail
    go_region_law (first | (go_simp; go_at_call 39; refine (next_pos _ _ _ (by repeat (first | exact S3.out | apply Src.drew | apply Src.alloc)) (by omega)).mono ?_; rintro e w4 ⟨r4, rfl, r40, r41, S4, c4⟩; (replace rf := c4.thawOf (a := ⟨w.heap.size, 0, none⟩) hn0 (Ext.cellOf (by repeat (first | exact Ext.refl _ | with_reducible apply Ext.alloc | with_reducible apply Ext.drew)) (R3.out 0 _ rfl).1) (Ext.thawOf (by repeat (first | exact Ext.refl _ | with_reducible apply Ext.alloc | with_reducible apply Ext.drew)) (R3.out 0 _ rfl).1 rf)); have I4 := Lib.hid ((I3.out.ext (by repeat (first | exact Ext.refl _ | with_reducible apply Ext.alloc | with_reducible apply Ext.drew))).chg c4 hgB); have C4 := Lib.hid ((C3.out.trans (Chg.of_ext (B := B) (by repeat (first | exact Ext.refl _ | with_reducible apply Ext.alloc | with_reducible apply Ext.drew)))).trans c4); (replace rr0 := c4.cellOf (a := ⟨w.heap.size, 0, none⟩) hn0 (Ext.cellOf (by repeat (first | exact Ext.refl _ | with_reducible apply Ext.alloc | with_reducible apply Ext.drew)) rr0)); have hcf := c4.facts.1; have hz := c4.size; (try simp at hz); have hn4 : w3.heap.size ≠ B := Nat.ne_of_gt S3.out.lt; have hn5 := Nat.ne_of_gt S4.lt; (replace f0 := c4.thawOf (a := ⟨g, k * 3, none⟩) hgB (Ext.cellOf (by repeat (first | exact Ext.refl _ | with_reducible apply Ext.alloc | with_reducible apply Ext.drew)) d0) (Ext.thawOf (by repeat (first | exact Ext.refl _ | with_reducible apply Ext.alloc | with_reducible apply Ext.drew)) d0 f0)); (replace d0 := c4.cellOf (a := ⟨g, k * 3, none⟩) hgB (Ext.cellOf (by repeat (first | exact Ext.refl _ | with_reducible apply Ext.alloc | with_reducible apply Ext.drew)) d0)); (replace t0 := c4.cellOf (a := ⟨w1.heap.size, 0, none⟩) hTB (Ext.cellOf (by repeat (first | exact Ext.refl _ | with_reducible apply Ext.alloc | with_reducible apply Ext.drew)) t0)); (replace tf := c4.thawOf (a := ⟨w1.heap.size, 0, none⟩) hTB (Ext.cellOf (by repeat (first | exact Ext.refl _ | with_reducible apply Ext.alloc | with_reducible apply Ext.drew)) (T3.out 0 _ rfl).1) (Ext.thawOf (by repeat (first | exact Ext.refl _ | with_reducible apply Ext.alloc | with_reducible apply Ext.drew)) (T3.out 0 _ rfl).1 tf)); (have d1 := fun A => ((Ext.refl w4).alloc A).cellOf d0); (have f1 := fun A => ((Ext.refl w4).alloc A).thawOf d0 f0); (have t1 := fun A => ((Ext.refl w4).alloc A).cellOf t0); (have rr1 := fun A => ((Ext.refl w4).alloc A).cellOf rr0); (have rf1 := fun A => ((Ext.refl w4).alloc A).thawOf rr0 rf); obtain ⟨v4, hv4, hw4⟩ := T1 r4 r40 r41))
    all_goals
      clear hcf
      go_wp2
      refine anyT_done (q0 := .slice none 0 0) ?_ hB ?_ ?_ hcap ?_ ?_ ?_ ?_ rfl
      · rw [oth _ _ _ _ (by simp; omega)]; exact Ext.cellOf (by repeat (first | exact Ext.refl _ | with_reducible apply Ext.alloc | with_reducible apply Ext.drew)) rr0
      · omega
      · omega
      · omega
      · exact (I4.out.ext (by repeat (first | exact Ext.refl _ | with_reducible apply Ext.alloc | with_reducible apply Ext.drew))).set _ _
      · exact Src.setCell (Src.ext S4 (by repeat (first | exact Ext.refl _ | with_reducible apply Ext.alloc | with_reducible apply Ext.drew))) (by simp; omega) _
      · exact (C4.out.trans (Chg.of_ext (B := B) (by repeat (first | exact Ext.refl _ | with_reducible apply Ext.alloc | with_reducible apply Ext.drew)))).setNew (by simp; omega) _
  · obtain ⟨⟨z, d0⟩, f0⟩ := I3.out (k * 3 + 1) (by omega)
    go_wp2
    exact anyT_done (F := w3.setCell ⟨g, k * 3 + 1, none⟩ (.int .i64 1000001)) (by rw [oth _ _ _ _ (by simp; omega)]; exact rr0) hB (by omega) (by omega) hcap (by omega) (I3.out.set _ _) (S3.out.setCell (by simp; omega) _) (C3.out.setNew (by simp; omega) _) rfl
  · obtain ⟨i0, hi, hz0', hz1', hz2'⟩ := info_parts fixInfo
    go_wp2
    go_loopw [5] (fun i wr => RelK w B w1.heap.size wr) (fun i wr => 42 - lenAt wr w1.heap.size)
    case atStart => exact ⟨g, cap, n, h2, by omega, hcap, by omega, by omega, T3.out, R3.out, I3.out, S3.out, C3.out⟩
    case round =>
      obtain ⟨g, cap, n, h2, h41, hcap, hg, hgT, hT, hR, hI, hS, hC⟩ := hrel
      have hgB : g ≠ B := by omega
      have HT := Lib.hid hT
      have HR := Lib.hid hR
      have HI := Lib.hid hI
      have HC := Lib.hid hC
      have hlen := lenAt_eq (hT 0 _ rfl).1
      have et : ∀ w', SrcC wr B w' → w'.cell? ⟨w1.heap.size, 0, none⟩ = some (.slice (some ⟨g, 0, none⟩) n cap) := fun w' h => h.1.cellOf hTB (hT 0 _ rfl).1
      have hS0 : SrcC wr B wr.drew := ⟨(Chg.refl _ _).drew, hS.drew⟩
      clear hT hR hI hC t0 tf rr0 rf
      go_wp2_with fail
      refine wp_region_held_drew (S := (SrcC wr B)) (by kernel_rfl) (by (try dsimp only); first | go_keep | exact (Ext.refl _).drew | exact Res.new2.drew | exact Res.new4.drew | exact ResB.drew (by assumption) | exact ResC.drew (by assumption) | assumption | exact Ext.drew (by assumption) | exact Res.drew (by assumption)) (fun hHeld => ?_)
      refine Ord.K 0 42 ?_
      refine Ord.K 1 43 ?_
      refine Ord.K 2 44 ?_
      refine Ord.K 3 45 ?_
      (refine wpAnyH_ready (rs := [4]) (by kernel_rfl) (by simp) ?_; refine AllReadyH.cons rfl (fun K hK => ?_) AllReadyH.nil; go_simp; (go_at_call 39; refine (next_pos _ _ _ (by assumption : SrcC _ _ _).2 (by omega)).mono ?_; rintro e w4 ⟨r4, rfl, r40, r41, S4, c4⟩; have hS4 : SrcC wr B w4 := ⟨(by assumption : SrcC _ _ _).1.trans c4, S4⟩; have D4 : IntKind.i64.wrap (40 + r4) = 40 + r4 := IntWalk.i64_in _ (by omega)); go_wp2_with fail; (refine hK.out _ _ (by first | assumption | exact Ext.trans (by assumption) hy | exact Res.ext (by assumption) hy | exact ResB.ext (by assumption) hy | exact ResC.ext (by assumption) hy | (go_split_ands; (repeat' apply And.intro) <;> exact Ext.cellOf hy (by assumption))) (fun hHeld => ?_)); clear hK K; (try simp only [Act.put, Ord.a, Ord.b, Ord.c]))
      refine Ord.K 5 47 ?_
      refine Ord.K 6 48 ?_
      refine wpAnyH_done (by kernel_rfl) ?_ _
      have c5 : Chg B wr w4 := hHeld.1
      have I4 := Lib.hid (HI.out.chg c5 hgB)
      have T4 := Lib.hid (HT.out.chg c5 hTB)
      have R4 := Lib.hid (HR.out.chg c5 hn0)
      have C4 := Lib.hid (HC.out.trans c5)
      have S5 := Lib.hid S4
      obtain ⟨t0, tf⟩ := T4.out 0 _ rfl
      obtain ⟨rr0, rf⟩ := R4.out 0 _ rfl
      clear c4 c5 et HI HT HR HC hS0 hS4 hHeld S4
      by_cases hn : (n : Int) < 40 + r4
      · have hn40 : n ≤ 40 := by omega
        obtain ⟨⟨z0, d0⟩, e0⟩ := I4.out ((n - 1) * 3) (by omega)
        obtain ⟨⟨z1, d1⟩, e1⟩ := I4.out ((n - 1) * 3 + 1) (by omega)
        obtain ⟨⟨z2, d2⟩, e2⟩ := I4.out ((n - 1) * 3 + 2) (by omega)
        have j0 : (0 : Int) ≤ (n : Int) - 1 := by omega
        have j1 : (n : Int) - 1 < (n : Int) := by omega
        have X0 : IntKind.i64.wrap ((n : Int) - 1) = (n : Int) - 1 := IntWalk.i64_in _ (by omega)
        have X1 : ((n : Int) - 1).toNat = n - 1 := by omega
        have X2 : (1 : Int) ≤ (n : Int) := by omega
        go_wp2_with fail
        --TREE
        obtain ⟨fs, rfl, hOwn⟩ := IntRow.own n I4.out
        have hOc := hOwn.cells
        have hlen2 := hlen
        have zT : w1.heap.size < w4.heap.size := World.block_lt_of_cell? w4 _ t0
        generalize hwf : w4.alloc (.cells #[.int .i64 z0, .int .i64 z1, .int .i64 z2] 55) = wf
        have hX : Ext w4 wf := hwf ▸ (Ext.refl w4).alloc _
        have zF : w4.heap.size < wf.heap.size := by rw [← hwf]; simp
        have Tb := T4.out.ext hX
        have ef0 : ∀ w', ResC wf w1.heap.size 1 w' → w'.cell? ⟨w4.heap.size, 0, none⟩ = some (.int .i64 z0) := fun w' h => h.cell (by simp; omega) (hwf ▸ boxed 0 rfl rfl)
        have ef1 : ∀ w', ResC wf w1.heap.size 1 w' → w'.cell? ⟨w4.heap.size, 1, none⟩ = some (.int .i64 z1) := fun w' h => h.cell (by simp; omega) (hwf ▸ boxed 1 rfl rfl)
        have ef2 : ∀ w', ResC wf w1.heap.size 1 w' → w'.cell? ⟨w4.heap.size, 2, none⟩ = some (.int .i64 z2) := fun w' h => h.cell (by simp; omega) (hwf ▸ boxed 2 rfl rfl)
        clear t0 tf d0 d1 d2 e0 e1 e2 hwf hlen
        refine wp_region_held_drew (S := ResC wf w1.heap.size 1) (by kernel_rfl) (by (try dsimp only); exact ResC.of1 Tb (Ext.refl _).drew) (fun hHeld => ?_)
        refine Ord.K 1 58 ?_; refine Ord.K 4 61 ?_; refine Ord.K 5 62 ?_; refine Ord.K 6 63 ?_; refine Ord.K 7 64 ?_; refine Ord.K 8 65 ?_; refine Ord.K 9 66 ?_; refine Ord.K 10 67 ?_; refine Ord.K 11 68 ?_
        clear ef0 ef1 ef2
        have hE : Ext wf wf.drew := (Ext.refl wf).drew
        obtain ⟨V0, hV0⟩ : ∃ V0, V0 = wf.drew := ⟨_, rfl⟩
        rw [← hV0] at hE hHeld ⊢
        clear hV0
        refine wpAnyH_ready (rs := [0, 2, 12]) (by kernel_rfl) (by simp) ?_
        refine (AllReadyH.cons rfl (fun K hK => ?_) (AllReadyH.cons rfl (fun K hK => ?_) (AllReadyH.cons rfl (fun K hK => ?_) AllReadyH.nil)))
        · go_simp
          have hE' : Ext wf (V0.alloc (.cells #[] 55)) := hE.alloc _
          refine hK.out _ _ (ResC.of1 Tb hE') (fun hHeld => ?_)
          clear hK K
          (try simp only [Act.put, Ord.a, Ord.b, Ord.c])
          have O1 : OwnF (V0.alloc (.cells #[] 55)) wf.heap.size (.slice (some ⟨V0.heap.size, 0, none⟩) 0 0) [] := World.ownsRow_lit (base := wf.heap.size) (e := 55) (size := 3) V0 #[] 0 hE.size (by unfold maxLen; omega) rfl
          have l0 : V0.heap.size < (V0.alloc (.cells #[] 55)).heap.size := by simp
          generalize V0.alloc (.cells #[] 55) = V1 at *
          replace hE := hE'
          refine wpAnyH_ready (rs := [2, 12]) (by kernel_rfl) (by simp) ?_
          refine (AllReadyH.cons rfl (fun K hK => ?_) (AllReadyH.cons rfl (fun K hK => ?_) AllReadyH.nil))
          · have tW := hE.cellOf (Tb 0 _ rfl).1
            go_simp
            refine hK.out _ _ hHeld (fun hHeld => ?_)
            clear hK K tW
            (try simp only [Act.put, Ord.a, Ord.b, Ord.c])
            refine wpAnyH_ready (rs := [3, 12]) (by kernel_rfl) (by simp) ?_
            refine (AllReadyH.cons rfl (fun K hK => ?_) (AllReadyH.cons rfl (fun K hK => ?_) AllReadyH.nil))
            · refine step_append_own rfl (.tmp 57) (.tmp 59) 44 rfl wf.heap.size 55 i0 (Fx 0 0 0) 3 24 Try.underlying44 hi hz0' hz1' hz2' rfl (by decide) (.slice (some ⟨V0.heap.size, 0, none⟩) 0 0) 0 [] (by simp [Act.eval, Act.put]) O1 ⟨g, 0, none⟩ fs.length cap (cellsF fs) (by simp [Act.eval, Act.put]) (cellsF_len fs) (fun j u hu => hE.cellOf (hX.cellOf (hOc j u hu))) (cellsF_one fs) (by unfold maxLen; omega) (by omega) hE.size ?_
              intro v1 V3 hown hgrow
              have hE' : Ext wf V3 := grown_ext (w0 := wf) O1 hgrow (Nat.le_refl _) hE
              have O2 : OwnF V3 wf.heap.size v1 fs := by simpa [OwnF] using hown
              refine hK.out _ _ (ResC.of1 Tb hE') (fun hHeld => ?_)
              clear hK K hown hgrow O1
              (try simp only [Act.put, Ord.a, Ord.b, Ord.c])
              replace hE := hE'
              refine wpAnyH_ready (rs := [12]) (by kernel_rfl) (by simp) ?_
              refine (AllReadyH.cons rfl (fun K hK => ?_) AllReadyH.nil)
              · go_simp
                have hE' : Ext wf (V3.alloc (.cells #[.int .i64 (IntKind.i64.wrap (z0 + 10)), .int .i64 z1, .int .i64 z2] 55)) := hE.alloc _
                refine hK.out _ _ (ResC.of1 Tb hE') (fun hHeld => ?_)
                clear hK K
                (try simp only [Act.put, Ord.a, Ord.b, Ord.c])
                have E1 : ∀ (j : Nat) (u : Value), ([.int .i64 (IntKind.i64.wrap (z0 + 10)), .int .i64 z1, .int .i64 z2] : List Value)[j]? = some u → (V3.alloc (.cells #[.int .i64 (IntKind.i64.wrap (z0 + 10)), .int .i64 z1, .int .i64 z2] 55)).cell? ((⟨V3.heap.size, 0, none⟩ : Addr).add j) = some u := one_cells
                have l1 : V3.heap.size < (V3.alloc (.cells #[.int .i64 (IntKind.i64.wrap (z0 + 10)), .int .i64 z1, .int .i64 z2] 55)).heap.size := by simp
                replace O2 := O2.ext ((Ext.refl V3).alloc (.cells #[.int .i64 (IntKind.i64.wrap (z0 + 10)), .int .i64 z1, .int .i64 z2] 55))
                generalize V3.alloc (.cells #[.int .i64 (IntKind.i64.wrap (z0 + 10)), .int .i64 z1, .int .i64 z2] 55) = V4 at *
                replace hE := hE'
                refine wpAnyH_ready (rs := [13]) (by kernel_rfl) (by simp) ?_
                refine (AllReadyH.cons rfl (fun K hK => ?_) AllReadyH.nil)
                · refine step_append_own rfl (.tmp 60) (.tmp 69) 44 rfl wf.heap.size 55 i0 (Fx 0 0 0) 3 24 Try.underlying44 hi hz0' hz1' hz2' rfl (by decide) v1 fs.length (cellsF fs) (by simp [Act.eval, Act.put]) O2 ⟨V3.heap.size, 0, none⟩ 1 1 [.int .i64 (IntKind.i64.wrap (z0 + 10)), .int .i64 z1, .int .i64 z2] (by simp [Act.eval, Act.put]) rfl E1 one_ones (by unfold maxLen; omega) (by omega) hE.size ?_
                  intro v2 V5 hown hgrow
                  have hE' : Ext wf V5 := grown_ext (w0 := wf) O2 hgrow (Nat.le_refl _) hE
                  have O3 := OwnF.snoc hown
                  obtain ⟨a', cap', rfl, hc', _, hg'⟩ := O3.fxs
                  rcases hg' with hg' | ⟨g', rfl, hg', hO'⟩
                  · simp at hg'
                  refine hK.out _ _ (ResC.of1 Tb hE') (fun hHeld => ?_)
                  clear hK K hown hgrow O2 E1
                  (try simp only [Act.put, Ord.a, Ord.b, Ord.c])
                  replace hE := hE'
                  refine Ord.K 14 71 ?_
                  refine wpAnyH_ready (rs := [15]) (by kernel_rfl) (by simp) ?_
                  refine (AllReadyH.cons rfl (fun K hK => ?_) AllReadyH.nil)
                  · have tW := hE.cellOf (Tb 0 _ rfl).1
                    have tfW := hE.thawOf (Tb 0 _ rfl).1 (Tb 0 _ rfl).2
                    go_simp
                    refine hK.out _ _ (ResC.set hHeld 0 _) (fun hHeld => ?_)
                    clear hK K tW tfW
                    (try simp only [Act.put, Ord.a, Ord.b, Ord.c])
                    refine wpAnyH_done (by kernel_rfl) ?_ _
                    go_wp2
                    go_roundw
                    case rel => exact ⟨g', cap', fs.length + 1, by omega, by omega, by simpa using hc', by omega, by omega, (Tb.ext hE).set 0 (by simp) _, ((R4.out.ext hX).ext hE).away (by simp; omega) _, (show IntRow _ g' (fs.length + 1) by simpa using Own.ints hO').chg ((Chg.refl _ _).setCell 0 _) (by omega), Src.setCell (Src.ext (Src.ext S5.out hX) hE) (by simp; omega) _, (C4.out.trans (Chg.of_ext (hX.trans hE))).setNew (by simp; omega) _⟩
                    case measure => rw [lenAt_eq (World.cell?_setCell_same _ _ _ ((Tb.ext hE) 0 _ rfl).1), hlen2]; simp; omega
            · go_simp
              have hE' : Ext wf (V1.alloc (.cells #[.int .i64 (IntKind.i64.wrap (z0 + 10)), .int .i64 z1, .int .i64 z2] 55)) := hE.alloc _
              refine hK.out _ _ (ResC.of1 Tb hE') (fun hHeld => ?_)
              clear hK K
              (try simp only [Act.put, Ord.a, Ord.b, Ord.c])
              have E1 : ∀ (j : Nat) (u : Value), ([.int .i64 (IntKind.i64.wrap (z0 + 10)), .int .i64 z1, .int .i64 z2] : List Value)[j]? = some u → (V1.alloc (.cells #[.int .i64 (IntKind.i64.wrap (z0 + 10)), .int .i64 z1, .int .i64 z2] 55)).cell? ((⟨V1.heap.size, 0, none⟩ : Addr).add j) = some u := one_cells
              have l1 : V1.heap.size < (V1.alloc (.cells #[.int .i64 (IntKind.i64.wrap (z0 + 10)), .int .i64 z1, .int .i64 z2] 55)).heap.size := by simp
              replace O1 := O1.ext ((Ext.refl V1).alloc (.cells #[.int .i64 (IntKind.i64.wrap (z0 + 10)), .int .i64 z1, .int .i64 z2] 55))
              have l01 : V0.heap.size ≠ V1.heap.size := by omega
              generalize V1.alloc (.cells #[.int .i64 (IntKind.i64.wrap (z0 + 10)), .int .i64 z1, .int .i64 z2] 55) = V3 at *
              replace hE := hE'
              refine wpAnyH_ready (rs := [3]) (by kernel_rfl) (by simp) ?_
              refine (AllReadyH.cons rfl (fun K hK => ?_) AllReadyH.nil)
              · refine step_append_own rfl (.tmp 57) (.tmp 59) 44 rfl wf.heap.size 55 i0 (Fx 0 0 0) 3 24 Try.underlying44 hi hz0' hz1' hz2' rfl (by decide) (.slice (some ⟨V0.heap.size, 0, none⟩) 0 0) 0 [] (by simp [Act.eval, Act.put]) O1 ⟨g, 0, none⟩ fs.length cap (cellsF fs) (by simp [Act.eval, Act.put]) (cellsF_len fs) (fun j u hu => hE.cellOf (hX.cellOf (hOc j u hu))) (cellsF_one fs) (by unfold maxLen; omega) (by omega) hE.size ?_
                intro v1 V4 hown hgrow
                have hE' : Ext wf V4 := grown_ext (w0 := wf) O1 hgrow (Nat.le_refl _) hE
                have O2 : OwnF V4 wf.heap.size v1 fs := by simpa [OwnF] using hown
                replace E1 : ∀ (j : Nat) (u : Value), ([.int .i64 (IntKind.i64.wrap (z0 + 10)), .int .i64 z1, .int .i64 z2] : List Value)[j]? = some u → V4.cell? ((⟨V1.heap.size, 0, none⟩ : Addr).add j) = some u := fun j u hu => by have h := E1 j u hu; rw [adr] at h ⊢; exact World.grownBy.cell hgrow h (fun e => l01 (by simpa [Value.ownBlock] using e.symm))
                refine hK.out _ _ (ResC.of1 Tb hE') (fun hHeld => ?_)
                clear hK K hown hgrow O1
                (try simp only [Act.put, Ord.a, Ord.b, Ord.c])
                replace hE := hE'
                refine wpAnyH_ready (rs := [13]) (by kernel_rfl) (by simp) ?_
                refine (AllReadyH.cons rfl (fun K hK => ?_) AllReadyH.nil)
                · refine step_append_own rfl (.tmp 60) (.tmp 69) 44 rfl wf.heap.size 55 i0 (Fx 0 0 0) 3 24 Try.underlying44 hi hz0' hz1' hz2' rfl (by decide) v1 fs.length (cellsF fs) (by simp [Act.eval, Act.put]) O2 ⟨V1.heap.size, 0, none⟩ 1 1 [.int .i64 (IntKind.i64.wrap (z0 + 10)), .int .i64 z1, .int .i64 z2] (by simp [Act.eval, Act.put]) rfl E1 one_ones (by unfold maxLen; omega) (by omega) hE.size ?_
                  intro v2 V5 hown hgrow
                  have hE' : Ext wf V5 := grown_ext (w0 := wf) O2 hgrow (Nat.le_refl _) hE
                  have O3 := OwnF.snoc hown
                  obtain ⟨a', cap', rfl, hc', _, hg'⟩ := O3.fxs
                  rcases hg' with hg' | ⟨g', rfl, hg', hO'⟩
                  · simp at hg'
                  refine hK.out _ _ (ResC.of1 Tb hE') (fun hHeld => ?_)
                  clear hK K hown hgrow O2 E1
                  (try simp only [Act.put, Ord.a, Ord.b, Ord.c])
                  replace hE := hE'
                  refine Ord.K 14 71 ?_
                  refine wpAnyH_ready (rs := [15]) (by kernel_rfl) (by simp) ?_
                  refine (AllReadyH.cons rfl (fun K hK => ?_) AllReadyH.nil)
                  · have tW := hE.cellOf (Tb 0 _ rfl).1
                    have tfW := hE.thawOf (Tb 0 _ rfl).1 (Tb 0 _ rfl).2
                    go_simp
                    refine hK.out _ _ (ResC.set hHeld 0 _) (fun hHeld => ?_)
                    clear hK K tW tfW
                    (try simp only [Act.put, Ord.a, Ord.b, Ord.c])
                    refine wpAnyH_done (by kernel_rfl) ?_ _
                    go_wp2
                    go_roundw
                    case rel => exact ⟨g', cap', fs.length + 1, by omega, by omega, by simpa using hc', by omega, by omega, (Tb.ext hE).set 0 (by simp) _, ((R4.out.ext hX).ext hE).away (by simp; omega) _, (show IntRow _ g' (fs.length + 1) by simpa using Own.ints hO').chg ((Chg.refl _ _).setCell 0 _) (by omega), Src.setCell (Src.ext (Src.ext S5.out hX) hE) (by simp; omega) _, (C4.out.trans (Chg.of_ext (hX.trans hE))).setNew (by simp; omega) _⟩
                    case measure => rw [lenAt_eq (World.cell?_setCell_same _ _ _ ((Tb.ext hE) 0 _ rfl).1), hlen2]; simp; omega
          · go_simp
            have hE' : Ext wf (V1.alloc (.cells #[.int .i64 (IntKind.i64.wrap (z0 + 10)), .int .i64 z1, .int .i64 z2] 55)) := hE.alloc _
            refine hK.out _ _ (ResC.of1 Tb hE') (fun hHeld => ?_)
            clear hK K
            (try simp only [Act.put, Ord.a, Ord.b, Ord.c])
            have E1 : ∀ (j : Nat) (u : Value), ([.int .i64 (IntKind.i64.wrap (z0 + 10)), .int .i64 z1, .int .i64 z2] : List Value)[j]? = some u → (V1.alloc (.cells #[.int .i64 (IntKind.i64.wrap (z0 + 10)), .int .i64 z1, .int .i64 z2] 55)).cell? ((⟨V1.heap.size, 0, none⟩ : Addr).add j) = some u := one_cells
            have l1 : V1.heap.size < (V1.alloc (.cells #[.int .i64 (IntKind.i64.wrap (z0 + 10)), .int .i64 z1, .int .i64 z2] 55)).heap.size := by simp
            replace O1 := O1.ext ((Ext.refl V1).alloc (.cells #[.int .i64 (IntKind.i64.wrap (z0 + 10)), .int .i64 z1, .int .i64 z2] 55))
            have l01 : V0.heap.size ≠ V1.heap.size := by omega
            generalize V1.alloc (.cells #[.int .i64 (IntKind.i64.wrap (z0 + 10)), .int .i64 z1, .int .i64 z2] 55) = V2 at *
            replace hE := hE'
            refine wpAnyH_ready (rs := [2]) (by kernel_rfl) (by simp) ?_
            refine (AllReadyH.cons rfl (fun K hK => ?_) AllReadyH.nil)
            · have tW := hE.cellOf (Tb 0 _ rfl).1
              go_simp
              refine hK.out _ _ hHeld (fun hHeld => ?_)
              clear hK K tW
              (try simp only [Act.put, Ord.a, Ord.b, Ord.c])
              refine wpAnyH_ready (rs := [3]) (by kernel_rfl) (by simp) ?_
              refine (AllReadyH.cons rfl (fun K hK => ?_) AllReadyH.nil)
              · refine step_append_own rfl (.tmp 57) (.tmp 59) 44 rfl wf.heap.size 55 i0 (Fx 0 0 0) 3 24 Try.underlying44 hi hz0' hz1' hz2' rfl (by decide) (.slice (some ⟨V0.heap.size, 0, none⟩) 0 0) 0 [] (by simp [Act.eval, Act.put]) O1 ⟨g, 0, none⟩ fs.length cap (cellsF fs) (by simp [Act.eval, Act.put]) (cellsF_len fs) (fun j u hu => hE.cellOf (hX.cellOf (hOc j u hu))) (cellsF_one fs) (by unfold maxLen; omega) (by omega) hE.size ?_
                intro v1 V4 hown hgrow
                have hE' : Ext wf V4 := grown_ext (w0 := wf) O1 hgrow (Nat.le_refl _) hE
                have O2 : OwnF V4 wf.heap.size v1 fs := by simpa [OwnF] using hown
                replace E1 : ∀ (j : Nat) (u : Value), ([.int .i64 (IntKind.i64.wrap (z0 + 10)), .int .i64 z1, .int .i64 z2] : List Value)[j]? = some u → V4.cell? ((⟨V1.heap.size, 0, none⟩ : Addr).add j) = some u := fun j u hu => by have h := E1 j u hu; rw [adr] at h ⊢; exact World.grownBy.cell hgrow h (fun e => l01 (by simpa [Value.ownBlock] using e.symm))
                refine hK.out _ _ (ResC.of1 Tb hE') (fun hHeld => ?_)
                clear hK K hown hgrow O1
                (try simp only [Act.put, Ord.a, Ord.b, Ord.c])
                replace hE := hE'
                refine wpAnyH_ready (rs := [13]) (by kernel_rfl) (by simp) ?_
                refine (AllReadyH.cons rfl (fun K hK => ?_) AllReadyH.nil)
                · refine step_append_own rfl (.tmp 60) (.tmp 69) 44 rfl wf.heap.size 55 i0 (Fx 0 0 0) 3 24 Try.underlying44 hi hz0' hz1' hz2' rfl (by decide) v1 fs.length (cellsF fs) (by simp [Act.eval, Act.put]) O2 ⟨V1.heap.size, 0, none⟩ 1 1 [.int .i64 (IntKind.i64.wrap (z0 + 10)), .int .i64 z1, .int .i64 z2] (by simp [Act.eval, Act.put]) rfl E1 one_ones (by unfold maxLen; omega) (by omega) hE.size ?_
                  intro v2 V5 hown hgrow
                  have hE' : Ext wf V5 := grown_ext (w0 := wf) O2 hgrow (Nat.le_refl _) hE
                  have O3 := OwnF.snoc hown
                  obtain ⟨a', cap', rfl, hc', _, hg'⟩ := O3.fxs
                  rcases hg' with hg' | ⟨g', rfl, hg', hO'⟩
                  · simp at hg'
                  refine hK.out _ _ (ResC.of1 Tb hE') (fun hHeld => ?_)
                  clear hK K hown hgrow O2 E1
                  (try simp only [Act.put, Ord.a, Ord.b, Ord.c])
                  replace hE := hE'
                  refine Ord.K 14 71 ?_
                  refine wpAnyH_ready (rs := [15]) (by kernel_rfl) (by simp) ?_
                  refine (AllReadyH.cons rfl (fun K hK => ?_) AllReadyH.nil)
                  · have tW := hE.cellOf (Tb 0 _ rfl).1
                    have tfW := hE.thawOf (Tb 0 _ rfl).1 (Tb 0 _ rfl).2
                    go_simp
                    refine hK.out _ _ (ResC.set hHeld 0 _) (fun hHeld => ?_)
                    clear hK K tW tfW
                    (try simp only [Act.put, Ord.a, Ord.b, Ord.c])
                    refine wpAnyH_done (by kernel_rfl) ?_ _
                    go_wp2
                    go_roundw
                    case rel => exact ⟨g', cap', fs.length + 1, by omega, by omega, by simpa using hc', by omega, by omega, (Tb.ext hE).set 0 (by simp) _, ((R4.out.ext hX).ext hE).away (by simp; omega) _, (show IntRow _ g' (fs.length + 1) by simpa using Own.ints hO').chg ((Chg.refl _ _).setCell 0 _) (by omega), Src.setCell (Src.ext (Src.ext S5.out hX) hE) (by simp; omega) _, (C4.out.trans (Chg.of_ext (hX.trans hE))).setNew (by simp; omega) _⟩
                    case measure => rw [lenAt_eq (World.cell?_setCell_same _ _ _ ((Tb.ext hE) 0 _ rfl).1), hlen2]; simp; omega
        · have tW := hE.cellOf (Tb 0 _ rfl).1
          go_simp
          refine hK.out _ _ hHeld (fun hHeld => ?_)
          clear hK K tW
          (try simp only [Act.put, Ord.a, Ord.b, Ord.c])
          refine wpAnyH_ready (rs := [0, 12]) (by kernel_rfl) (by simp) ?_
          refine (AllReadyH.cons rfl (fun K hK => ?_) (AllReadyH.cons rfl (fun K hK => ?_) AllReadyH.nil))
          · go_simp
            have hE' : Ext wf (V0.alloc (.cells #[] 55)) := hE.alloc _
            refine hK.out _ _ (ResC.of1 Tb hE') (fun hHeld => ?_)
            clear hK K
            (try simp only [Act.put, Ord.a, Ord.b, Ord.c])
            have O1 : OwnF (V0.alloc (.cells #[] 55)) wf.heap.size (.slice (some ⟨V0.heap.size, 0, none⟩) 0 0) [] := World.ownsRow_lit (base := wf.heap.size) (e := 55) (size := 3) V0 #[] 0 hE.size (by unfold maxLen; omega) rfl
            have l0 : V0.heap.size < (V0.alloc (.cells #[] 55)).heap.size := by simp
            generalize V0.alloc (.cells #[] 55) = V2 at *
            replace hE := hE'
            refine wpAnyH_ready (rs := [3, 12]) (by kernel_rfl) (by simp) ?_
            refine (AllReadyH.cons rfl (fun K hK => ?_) (AllReadyH.cons rfl (fun K hK => ?_) AllReadyH.nil))
            · refine step_append_own rfl (.tmp 57) (.tmp 59) 44 rfl wf.heap.size 55 i0 (Fx 0 0 0) 3 24 Try.underlying44 hi hz0' hz1' hz2' rfl (by decide) (.slice (some ⟨V0.heap.size, 0, none⟩) 0 0) 0 [] (by simp [Act.eval, Act.put]) O1 ⟨g, 0, none⟩ fs.length cap (cellsF fs) (by simp [Act.eval, Act.put]) (cellsF_len fs) (fun j u hu => hE.cellOf (hX.cellOf (hOc j u hu))) (cellsF_one fs) (by unfold maxLen; omega) (by omega) hE.size ?_
              intro v1 V3 hown hgrow
              have hE' : Ext wf V3 := grown_ext (w0 := wf) O1 hgrow (Nat.le_refl _) hE
              have O2 : OwnF V3 wf.heap.size v1 fs := by simpa [OwnF] using hown
              refine hK.out _ _ (ResC.of1 Tb hE') (fun hHeld => ?_)
              clear hK K hown hgrow O1
              (try simp only [Act.put, Ord.a, Ord.b, Ord.c])
              replace hE := hE'
              refine wpAnyH_ready (rs := [12]) (by kernel_rfl) (by simp) ?_
              refine (AllReadyH.cons rfl (fun K hK => ?_) AllReadyH.nil)
              · go_simp
                have hE' : Ext wf (V3.alloc (.cells #[.int .i64 (IntKind.i64.wrap (z0 + 10)), .int .i64 z1, .int .i64 z2] 55)) := hE.alloc _
                refine hK.out _ _ (ResC.of1 Tb hE') (fun hHeld => ?_)
                clear hK K
                (try simp only [Act.put, Ord.a, Ord.b, Ord.c])
                have E1 : ∀ (j : Nat) (u : Value), ([.int .i64 (IntKind.i64.wrap (z0 + 10)), .int .i64 z1, .int .i64 z2] : List Value)[j]? = some u → (V3.alloc (.cells #[.int .i64 (IntKind.i64.wrap (z0 + 10)), .int .i64 z1, .int .i64 z2] 55)).cell? ((⟨V3.heap.size, 0, none⟩ : Addr).add j) = some u := one_cells
                have l1 : V3.heap.size < (V3.alloc (.cells #[.int .i64 (IntKind.i64.wrap (z0 + 10)), .int .i64 z1, .int .i64 z2] 55)).heap.size := by simp
                replace O2 := O2.ext ((Ext.refl V3).alloc (.cells #[.int .i64 (IntKind.i64.wrap (z0 + 10)), .int .i64 z1, .int .i64 z2] 55))
                generalize V3.alloc (.cells #[.int .i64 (IntKind.i64.wrap (z0 + 10)), .int .i64 z1, .int .i64 z2] 55) = V4 at *
                replace hE := hE'
                refine wpAnyH_ready (rs := [13]) (by kernel_rfl) (by simp) ?_
                refine (AllReadyH.cons rfl (fun K hK => ?_) AllReadyH.nil)
                · refine step_append_own rfl (.tmp 60) (.tmp 69) 44 rfl wf.heap.size 55 i0 (Fx 0 0 0) 3 24 Try.underlying44 hi hz0' hz1' hz2' rfl (by decide) v1 fs.length (cellsF fs) (by simp [Act.eval, Act.put]) O2 ⟨V3.heap.size, 0, none⟩ 1 1 [.int .i64 (IntKind.i64.wrap (z0 + 10)), .int .i64 z1, .int .i64 z2] (by simp [Act.eval, Act.put]) rfl E1 one_ones (by unfold maxLen; omega) (by omega) hE.size ?_
                  intro v2 V5 hown hgrow
                  have hE' : Ext wf V5 := grown_ext (w0 := wf) O2 hgrow (Nat.le_refl _) hE
                  have O3 := OwnF.snoc hown
                  obtain ⟨a', cap', rfl, hc', _, hg'⟩ := O3.fxs
                  rcases hg' with hg' | ⟨g', rfl, hg', hO'⟩
                  · simp at hg'
                  refine hK.out _ _ (ResC.of1 Tb hE') (fun hHeld => ?_)
                  clear hK K hown hgrow O2 E1
                  (try simp only [Act.put, Ord.a, Ord.b, Ord.c])
                  replace hE := hE'
                  refine Ord.K 14 71 ?_
                  refine wpAnyH_ready (rs := [15]) (by kernel_rfl) (by simp) ?_
                  refine (AllReadyH.cons rfl (fun K hK => ?_) AllReadyH.nil)
                  · have tW := hE.cellOf (Tb 0 _ rfl).1
                    have tfW := hE.thawOf (Tb 0 _ rfl).1 (Tb 0 _ rfl).2
                    go_simp
                    refine hK.out _ _ (ResC.set hHeld 0 _) (fun hHeld => ?_)
                    clear hK K tW tfW
                    (try simp only [Act.put, Ord.a, Ord.b, Ord.c])
                    refine wpAnyH_done (by kernel_rfl) ?_ _
                    go_wp2
                    go_roundw
                    case rel => exact ⟨g', cap', fs.length + 1, by omega, by omega, by simpa using hc', by omega, by omega, (Tb.ext hE).set 0 (by simp) _, ((R4.out.ext hX).ext hE).away (by simp; omega) _, (show IntRow _ g' (fs.length + 1) by simpa using Own.ints hO').chg ((Chg.refl _ _).setCell 0 _) (by omega), Src.setCell (Src.ext (Src.ext S5.out hX) hE) (by simp; omega) _, (C4.out.trans (Chg.of_ext (hX.trans hE))).setNew (by simp; omega) _⟩
                    case measure => rw [lenAt_eq (World.cell?_setCell_same _ _ _ ((Tb.ext hE) 0 _ rfl).1), hlen2]; simp; omega
            · go_simp
              have hE' : Ext wf (V2.alloc (.cells #[.int .i64 (IntKind.i64.wrap (z0 + 10)), .int .i64 z1, .int .i64 z2] 55)) := hE.alloc _
              refine hK.out _ _ (ResC.of1 Tb hE') (fun hHeld => ?_)
              clear hK K
              (try simp only [Act.put, Ord.a, Ord.b, Ord.c])
              have E1 : ∀ (j : Nat) (u : Value), ([.int .i64 (IntKind.i64.wrap (z0 + 10)), .int .i64 z1, .int .i64 z2] : List Value)[j]? = some u → (V2.alloc (.cells #[.int .i64 (IntKind.i64.wrap (z0 + 10)), .int .i64 z1, .int .i64 z2] 55)).cell? ((⟨V2.heap.size, 0, none⟩ : Addr).add j) = some u := one_cells
              have l1 : V2.heap.size < (V2.alloc (.cells #[.int .i64 (IntKind.i64.wrap (z0 + 10)), .int .i64 z1, .int .i64 z2] 55)).heap.size := by simp
              replace O1 := O1.ext ((Ext.refl V2).alloc (.cells #[.int .i64 (IntKind.i64.wrap (z0 + 10)), .int .i64 z1, .int .i64 z2] 55))
              have l01 : V0.heap.size ≠ V2.heap.size := by omega
              generalize V2.alloc (.cells #[.int .i64 (IntKind.i64.wrap (z0 + 10)), .int .i64 z1, .int .i64 z2] 55) = V3 at *
              replace hE := hE'
              refine wpAnyH_ready (rs := [3]) (by kernel_rfl) (by simp) ?_
              refine (AllReadyH.cons rfl (fun K hK => ?_) AllReadyH.nil)
              · refine step_append_own rfl (.tmp 57) (.tmp 59) 44 rfl wf.heap.size 55 i0 (Fx 0 0 0) 3 24 Try.underlying44 hi hz0' hz1' hz2' rfl (by decide) (.slice (some ⟨V0.heap.size, 0, none⟩) 0 0) 0 [] (by simp [Act.eval, Act.put]) O1 ⟨g, 0, none⟩ fs.length cap (cellsF fs) (by simp [Act.eval, Act.put]) (cellsF_len fs) (fun j u hu => hE.cellOf (hX.cellOf (hOc j u hu))) (cellsF_one fs) (by unfold maxLen; omega) (by omega) hE.size ?_
                intro v1 V4 hown hgrow
                have hE' : Ext wf V4 := grown_ext (w0 := wf) O1 hgrow (Nat.le_refl _) hE
                have O2 : OwnF V4 wf.heap.size v1 fs := by simpa [OwnF] using hown
                replace E1 : ∀ (j : Nat) (u : Value), ([.int .i64 (IntKind.i64.wrap (z0 + 10)), .int .i64 z1, .int .i64 z2] : List Value)[j]? = some u → V4.cell? ((⟨V2.heap.size, 0, none⟩ : Addr).add j) = some u := fun j u hu => by have h := E1 j u hu; rw [adr] at h ⊢; exact World.grownBy.cell hgrow h (fun e => l01 (by simpa [Value.ownBlock] using e.symm))
                refine hK.out _ _ (ResC.of1 Tb hE') (fun hHeld => ?_)
                clear hK K hown hgrow O1
                (try simp only [Act.put, Ord.a, Ord.b, Ord.c])
                replace hE := hE'
                refine wpAnyH_ready (rs := [13]) (by kernel_rfl) (by simp) ?_
                refine (AllReadyH.cons rfl (fun K hK => ?_) AllReadyH.nil)
                · refine step_append_own rfl (.tmp 60) (.tmp 69) 44 rfl wf.heap.size 55 i0 (Fx 0 0 0) 3 24 Try.underlying44 hi hz0' hz1' hz2' rfl (by decide) v1 fs.length (cellsF fs) (by simp [Act.eval, Act.put]) O2 ⟨V2.heap.size, 0, none⟩ 1 1 [.int .i64 (IntKind.i64.wrap (z0 + 10)), .int .i64 z1, .int .i64 z2] (by simp [Act.eval, Act.put]) rfl E1 one_ones (by unfold maxLen; omega) (by omega) hE.size ?_
                  intro v2 V5 hown hgrow
                  have hE' : Ext wf V5 := grown_ext (w0 := wf) O2 hgrow (Nat.le_refl _) hE
                  have O3 := OwnF.snoc hown
                  obtain ⟨a', cap', rfl, hc', _, hg'⟩ := O3.fxs
                  rcases hg' with hg' | ⟨g', rfl, hg', hO'⟩
                  · simp at hg'
                  refine hK.out _ _ (ResC.of1 Tb hE') (fun hHeld => ?_)
                  clear hK K hown hgrow O2 E1
                  (try simp only [Act.put, Ord.a, Ord.b, Ord.c])
                  replace hE := hE'
                  refine Ord.K 14 71 ?_
                  refine wpAnyH_ready (rs := [15]) (by kernel_rfl) (by simp) ?_
                  refine (AllReadyH.cons rfl (fun K hK => ?_) AllReadyH.nil)
                  · have tW := hE.cellOf (Tb 0 _ rfl).1
                    have tfW := hE.thawOf (Tb 0 _ rfl).1 (Tb 0 _ rfl).2
                    go_simp
                    refine hK.out _ _ (ResC.set hHeld 0 _) (fun hHeld => ?_)
                    clear hK K tW tfW
                    (try simp only [Act.put, Ord.a, Ord.b, Ord.c])
                    refine wpAnyH_done (by kernel_rfl) ?_ _
                    go_wp2
                    go_roundw
                    case rel => exact ⟨g', cap', fs.length + 1, by omega, by omega, by simpa using hc', by omega, by omega, (Tb.ext hE).set 0 (by simp) _, ((R4.out.ext hX).ext hE).away (by simp; omega) _, (show IntRow _ g' (fs.length + 1) by simpa using Own.ints hO').chg ((Chg.refl _ _).setCell 0 _) (by omega), Src.setCell (Src.ext (Src.ext S5.out hX) hE) (by simp; omega) _, (C4.out.trans (Chg.of_ext (hX.trans hE))).setNew (by simp; omega) _⟩
                    case measure => rw [lenAt_eq (World.cell?_setCell_same _ _ _ ((Tb.ext hE) 0 _ rfl).1), hlen2]; simp; omega
          · go_simp
            have hE' : Ext wf (V0.alloc (.cells #[.int .i64 (IntKind.i64.wrap (z0 + 10)), .int .i64 z1, .int .i64 z2] 55)) := hE.alloc _
            refine hK.out _ _ (ResC.of1 Tb hE') (fun hHeld => ?_)
            clear hK K
            (try simp only [Act.put, Ord.a, Ord.b, Ord.c])
            have E1 : ∀ (j : Nat) (u : Value), ([.int .i64 (IntKind.i64.wrap (z0 + 10)), .int .i64 z1, .int .i64 z2] : List Value)[j]? = some u → (V0.alloc (.cells #[.int .i64 (IntKind.i64.wrap (z0 + 10)), .int .i64 z1, .int .i64 z2] 55)).cell? ((⟨V0.heap.size, 0, none⟩ : Addr).add j) = some u := one_cells
            have l1 : V0.heap.size < (V0.alloc (.cells #[.int .i64 (IntKind.i64.wrap (z0 + 10)), .int .i64 z1, .int .i64 z2] 55)).heap.size := by simp
            generalize V0.alloc (.cells #[.int .i64 (IntKind.i64.wrap (z0 + 10)), .int .i64 z1, .int .i64 z2] 55) = V2 at *
            replace hE := hE'
            refine wpAnyH_ready (rs := [0]) (by kernel_rfl) (by simp) ?_
            refine (AllReadyH.cons rfl (fun K hK => ?_) AllReadyH.nil)
            · go_simp
              have hE' : Ext wf (V2.alloc (.cells #[] 55)) := hE.alloc _
              refine hK.out _ _ (ResC.of1 Tb hE') (fun hHeld => ?_)
              clear hK K
              (try simp only [Act.put, Ord.a, Ord.b, Ord.c])
              have O1 : OwnF (V2.alloc (.cells #[] 55)) wf.heap.size (.slice (some ⟨V2.heap.size, 0, none⟩) 0 0) [] := World.ownsRow_lit (base := wf.heap.size) (e := 55) (size := 3) V2 #[] 0 hE.size (by unfold maxLen; omega) rfl
              have l0 : V2.heap.size < (V2.alloc (.cells #[] 55)).heap.size := by simp
              replace E1 : ∀ (j : Nat) (u : Value), ([.int .i64 (IntKind.i64.wrap (z0 + 10)), .int .i64 z1, .int .i64 z2] : List Value)[j]? = some u → (V2.alloc (.cells #[] 55)).cell? ((⟨V0.heap.size, 0, none⟩ : Addr).add j) = some u := fun j u hu => ((Ext.refl _).alloc _).cellOf (E1 j u hu)
              have l01 : V2.heap.size ≠ V0.heap.size := by omega
              generalize V2.alloc (.cells #[] 55) = V3 at *
              replace hE := hE'
              refine wpAnyH_ready (rs := [3]) (by kernel_rfl) (by simp) ?_
              refine (AllReadyH.cons rfl (fun K hK => ?_) AllReadyH.nil)
              · refine step_append_own rfl (.tmp 57) (.tmp 59) 44 rfl wf.heap.size 55 i0 (Fx 0 0 0) 3 24 Try.underlying44 hi hz0' hz1' hz2' rfl (by decide) (.slice (some ⟨V2.heap.size, 0, none⟩) 0 0) 0 [] (by simp [Act.eval, Act.put]) O1 ⟨g, 0, none⟩ fs.length cap (cellsF fs) (by simp [Act.eval, Act.put]) (cellsF_len fs) (fun j u hu => hE.cellOf (hX.cellOf (hOc j u hu))) (cellsF_one fs) (by unfold maxLen; omega) (by omega) hE.size ?_
                intro v1 V4 hown hgrow
                have hE' : Ext wf V4 := grown_ext (w0 := wf) O1 hgrow (Nat.le_refl _) hE
                have O2 : OwnF V4 wf.heap.size v1 fs := by simpa [OwnF] using hown
                replace E1 : ∀ (j : Nat) (u : Value), ([.int .i64 (IntKind.i64.wrap (z0 + 10)), .int .i64 z1, .int .i64 z2] : List Value)[j]? = some u → V4.cell? ((⟨V0.heap.size, 0, none⟩ : Addr).add j) = some u := fun j u hu => by have h := E1 j u hu; rw [adr] at h ⊢; exact World.grownBy.cell hgrow h (fun e => l01 (by simpa [Value.ownBlock] using e.symm))
                refine hK.out _ _ (ResC.of1 Tb hE') (fun hHeld => ?_)
                clear hK K hown hgrow O1
                (try simp only [Act.put, Ord.a, Ord.b, Ord.c])
                replace hE := hE'
                refine wpAnyH_ready (rs := [13]) (by kernel_rfl) (by simp) ?_
                refine (AllReadyH.cons rfl (fun K hK => ?_) AllReadyH.nil)
                · refine step_append_own rfl (.tmp 60) (.tmp 69) 44 rfl wf.heap.size 55 i0 (Fx 0 0 0) 3 24 Try.underlying44 hi hz0' hz1' hz2' rfl (by decide) v1 fs.length (cellsF fs) (by simp [Act.eval, Act.put]) O2 ⟨V0.heap.size, 0, none⟩ 1 1 [.int .i64 (IntKind.i64.wrap (z0 + 10)), .int .i64 z1, .int .i64 z2] (by simp [Act.eval, Act.put]) rfl E1 one_ones (by unfold maxLen; omega) (by omega) hE.size ?_
                  intro v2 V5 hown hgrow
                  have hE' : Ext wf V5 := grown_ext (w0 := wf) O2 hgrow (Nat.le_refl _) hE
                  have O3 := OwnF.snoc hown
                  obtain ⟨a', cap', rfl, hc', _, hg'⟩ := O3.fxs
                  rcases hg' with hg' | ⟨g', rfl, hg', hO'⟩
                  · simp at hg'
                  refine hK.out _ _ (ResC.of1 Tb hE') (fun hHeld => ?_)
                  clear hK K hown hgrow O2 E1
                  (try simp only [Act.put, Ord.a, Ord.b, Ord.c])
                  replace hE := hE'
                  refine Ord.K 14 71 ?_
                  refine wpAnyH_ready (rs := [15]) (by kernel_rfl) (by simp) ?_
                  refine (AllReadyH.cons rfl (fun K hK => ?_) AllReadyH.nil)
                  · have tW := hE.cellOf (Tb 0 _ rfl).1
                    have tfW := hE.thawOf (Tb 0 _ rfl).1 (Tb 0 _ rfl).2
                    go_simp
                    refine hK.out _ _ (ResC.set hHeld 0 _) (fun hHeld => ?_)
                    clear hK K tW tfW
                    (try simp only [Act.put, Ord.a, Ord.b, Ord.c])
                    refine wpAnyH_done (by kernel_rfl) ?_ _
                    go_wp2
                    go_roundw
                    case rel => exact ⟨g', cap', fs.length + 1, by omega, by omega, by simpa using hc', by omega, by omega, (Tb.ext hE).set 0 (by simp) _, ((R4.out.ext hX).ext hE).away (by simp; omega) _, (show IntRow _ g' (fs.length + 1) by simpa using Own.ints hO').chg ((Chg.refl _ _).setCell 0 _) (by omega), Src.setCell (Src.ext (Src.ext S5.out hX) hE) (by simp; omega) _, (C4.out.trans (Chg.of_ext (hX.trans hE))).setNew (by simp; omega) _⟩
                    case measure => rw [lenAt_eq (World.cell?_setCell_same _ _ _ ((Tb.ext hE) 0 _ rfl).1), hlen2]; simp; omega
        · go_simp
          have hE' : Ext wf (V0.alloc (.cells #[.int .i64 (IntKind.i64.wrap (z0 + 10)), .int .i64 z1, .int .i64 z2] 55)) := hE.alloc _
          refine hK.out _ _ (ResC.of1 Tb hE') (fun hHeld => ?_)
          clear hK K
          (try simp only [Act.put, Ord.a, Ord.b, Ord.c])
          have E1 : ∀ (j : Nat) (u : Value), ([.int .i64 (IntKind.i64.wrap (z0 + 10)), .int .i64 z1, .int .i64 z2] : List Value)[j]? = some u → (V0.alloc (.cells #[.int .i64 (IntKind.i64.wrap (z0 + 10)), .int .i64 z1, .int .i64 z2] 55)).cell? ((⟨V0.heap.size, 0, none⟩ : Addr).add j) = some u := one_cells
          have l1 : V0.heap.size < (V0.alloc (.cells #[.int .i64 (IntKind.i64.wrap (z0 + 10)), .int .i64 z1, .int .i64 z2] 55)).heap.size := by simp
          generalize V0.alloc (.cells #[.int .i64 (IntKind.i64.wrap (z0 + 10)), .int .i64 z1, .int .i64 z2] 55) = V1 at *
          replace hE := hE'
          refine wpAnyH_ready (rs := [0, 2]) (by kernel_rfl) (by simp) ?_
          refine (AllReadyH.cons rfl (fun K hK => ?_) (AllReadyH.cons rfl (fun K hK => ?_) AllReadyH.nil))
          · go_simp
            have hE' : Ext wf (V1.alloc (.cells #[] 55)) := hE.alloc _
            refine hK.out _ _ (ResC.of1 Tb hE') (fun hHeld => ?_)
            clear hK K
            (try simp only [Act.put, Ord.a, Ord.b, Ord.c])
            have O1 : OwnF (V1.alloc (.cells #[] 55)) wf.heap.size (.slice (some ⟨V1.heap.size, 0, none⟩) 0 0) [] := World.ownsRow_lit (base := wf.heap.size) (e := 55) (size := 3) V1 #[] 0 hE.size (by unfold maxLen; omega) rfl
            have l0 : V1.heap.size < (V1.alloc (.cells #[] 55)).heap.size := by simp
            replace E1 : ∀ (j : Nat) (u : Value), ([.int .i64 (IntKind.i64.wrap (z0 + 10)), .int .i64 z1, .int .i64 z2] : List Value)[j]? = some u → (V1.alloc (.cells #[] 55)).cell? ((⟨V0.heap.size, 0, none⟩ : Addr).add j) = some u := fun j u hu => ((Ext.refl _).alloc _).cellOf (E1 j u hu)
            have l01 : V1.heap.size ≠ V0.heap.size := by omega
            generalize V1.alloc (.cells #[] 55) = V2 at *
            replace hE := hE'
            refine wpAnyH_ready (rs := [2]) (by kernel_rfl) (by simp) ?_
            refine (AllReadyH.cons rfl (fun K hK => ?_) AllReadyH.nil)
            · have tW := hE.cellOf (Tb 0 _ rfl).1
              go_simp
              refine hK.out _ _ hHeld (fun hHeld => ?_)
              clear hK K tW
              (try simp only [Act.put, Ord.a, Ord.b, Ord.c])
              refine wpAnyH_ready (rs := [3]) (by kernel_rfl) (by simp) ?_
              refine (AllReadyH.cons rfl (fun K hK => ?_) AllReadyH.nil)
              · refine step_append_own rfl (.tmp 57) (.tmp 59) 44 rfl wf.heap.size 55 i0 (Fx 0 0 0) 3 24 Try.underlying44 hi hz0' hz1' hz2' rfl (by decide) (.slice (some ⟨V1.heap.size, 0, none⟩) 0 0) 0 [] (by simp [Act.eval, Act.put]) O1 ⟨g, 0, none⟩ fs.length cap (cellsF fs) (by simp [Act.eval, Act.put]) (cellsF_len fs) (fun j u hu => hE.cellOf (hX.cellOf (hOc j u hu))) (cellsF_one fs) (by unfold maxLen; omega) (by omega) hE.size ?_
                intro v1 V4 hown hgrow
                have hE' : Ext wf V4 := grown_ext (w0 := wf) O1 hgrow (Nat.le_refl _) hE
                have O2 : OwnF V4 wf.heap.size v1 fs := by simpa [OwnF] using hown
                replace E1 : ∀ (j : Nat) (u : Value), ([.int .i64 (IntKind.i64.wrap (z0 + 10)), .int .i64 z1, .int .i64 z2] : List Value)[j]? = some u → V4.cell? ((⟨V0.heap.size, 0, none⟩ : Addr).add j) = some u := fun j u hu => by have h := E1 j u hu; rw [adr] at h ⊢; exact World.grownBy.cell hgrow h (fun e => l01 (by simpa [Value.ownBlock] using e.symm))
                refine hK.out _ _ (ResC.of1 Tb hE') (fun hHeld => ?_)
                clear hK K hown hgrow O1
                (try simp only [Act.put, Ord.a, Ord.b, Ord.c])
                replace hE := hE'
                refine wpAnyH_ready (rs := [13]) (by kernel_rfl) (by simp) ?_
                refine (AllReadyH.cons rfl (fun K hK => ?_) AllReadyH.nil)
                · refine step_append_own rfl (.tmp 60) (.tmp 69) 44 rfl wf.heap.size 55 i0 (Fx 0 0 0) 3 24 Try.underlying44 hi hz0' hz1' hz2' rfl (by decide) v1 fs.length (cellsF fs) (by simp [Act.eval, Act.put]) O2 ⟨V0.heap.size, 0, none⟩ 1 1 [.int .i64 (IntKind.i64.wrap (z0 + 10)), .int .i64 z1, .int .i64 z2] (by simp [Act.eval, Act.put]) rfl E1 one_ones (by unfold maxLen; omega) (by omega) hE.size ?_
                  intro v2 V5 hown hgrow
                  have hE' : Ext wf V5 := grown_ext (w0 := wf) O2 hgrow (Nat.le_refl _) hE
                  have O3 := OwnF.snoc hown
                  obtain ⟨a', cap', rfl, hc', _, hg'⟩ := O3.fxs
                  rcases hg' with hg' | ⟨g', rfl, hg', hO'⟩
                  · simp at hg'
                  refine hK.out _ _ (ResC.of1 Tb hE') (fun hHeld => ?_)
                  clear hK K hown hgrow O2 E1
                  (try simp only [Act.put, Ord.a, Ord.b, Ord.c])
                  replace hE := hE'
                  refine Ord.K 14 71 ?_
                  refine wpAnyH_ready (rs := [15]) (by kernel_rfl) (by simp) ?_
                  refine (AllReadyH.cons rfl (fun K hK => ?_) AllReadyH.nil)
                  · have tW := hE.cellOf (Tb 0 _ rfl).1
                    have tfW := hE.thawOf (Tb 0 _ rfl).1 (Tb 0 _ rfl).2
                    go_simp
                    refine hK.out _ _ (ResC.set hHeld 0 _) (fun hHeld => ?_)
                    clear hK K tW tfW
                    (try simp only [Act.put, Ord.a, Ord.b, Ord.c])
                    refine wpAnyH_done (by kernel_rfl) ?_ _
                    go_wp2
                    go_roundw
                    case rel => exact ⟨g', cap', fs.length + 1, by omega, by omega, by simpa using hc', by omega, by omega, (Tb.ext hE).set 0 (by simp) _, ((R4.out.ext hX).ext hE).away (by simp; omega) _, (show IntRow _ g' (fs.length + 1) by simpa using Own.ints hO').chg ((Chg.refl _ _).setCell 0 _) (by omega), Src.setCell (Src.ext (Src.ext S5.out hX) hE) (by simp; omega) _, (C4.out.trans (Chg.of_ext (hX.trans hE))).setNew (by simp; omega) _⟩
                    case measure => rw [lenAt_eq (World.cell?_setCell_same _ _ _ ((Tb.ext hE) 0 _ rfl).1), hlen2]; simp; omega
          · have tW := hE.cellOf (Tb 0 _ rfl).1
            go_simp
            refine hK.out _ _ hHeld (fun hHeld => ?_)
            clear hK K tW
            (try simp only [Act.put, Ord.a, Ord.b, Ord.c])
            refine wpAnyH_ready (rs := [0]) (by kernel_rfl) (by simp) ?_
            refine (AllReadyH.cons rfl (fun K hK => ?_) AllReadyH.nil)
            · go_simp
              have hE' : Ext wf (V1.alloc (.cells #[] 55)) := hE.alloc _
              refine hK.out _ _ (ResC.of1 Tb hE') (fun hHeld => ?_)
              clear hK K
              (try simp only [Act.put, Ord.a, Ord.b, Ord.c])
              have O1 : OwnF (V1.alloc (.cells #[] 55)) wf.heap.size (.slice (some ⟨V1.heap.size, 0, none⟩) 0 0) [] := World.ownsRow_lit (base := wf.heap.size) (e := 55) (size := 3) V1 #[] 0 hE.size (by unfold maxLen; omega) rfl
              have l0 : V1.heap.size < (V1.alloc (.cells #[] 55)).heap.size := by simp
              replace E1 : ∀ (j : Nat) (u : Value), ([.int .i64 (IntKind.i64.wrap (z0 + 10)), .int .i64 z1, .int .i64 z2] : List Value)[j]? = some u → (V1.alloc (.cells #[] 55)).cell? ((⟨V0.heap.size, 0, none⟩ : Addr).add j) = some u := fun j u hu => ((Ext.refl _).alloc _).cellOf (E1 j u hu)
              have l01 : V1.heap.size ≠ V0.heap.size := by omega
              generalize V1.alloc (.cells #[] 55) = V3 at *
              replace hE := hE'
              refine wpAnyH_ready (rs := [3]) (by kernel_rfl) (by simp) ?_
              refine (AllReadyH.cons rfl (fun K hK => ?_) AllReadyH.nil)
              · refine step_append_own rfl (.tmp 57) (.tmp 59) 44 rfl wf.heap.size 55 i0 (Fx 0 0 0) 3 24 Try.underlying44 hi hz0' hz1' hz2' rfl (by decide) (.slice (some ⟨V1.heap.size, 0, none⟩) 0 0) 0 [] (by simp [Act.eval, Act.put]) O1 ⟨g, 0, none⟩ fs.length cap (cellsF fs) (by simp [Act.eval, Act.put]) (cellsF_len fs) (fun j u hu => hE.cellOf (hX.cellOf (hOc j u hu))) (cellsF_one fs) (by unfold maxLen; omega) (by omega) hE.size ?_
                intro v1 V4 hown hgrow
                have hE' : Ext wf V4 := grown_ext (w0 := wf) O1 hgrow (Nat.le_refl _) hE
                have O2 : OwnF V4 wf.heap.size v1 fs := by simpa [OwnF] using hown
                replace E1 : ∀ (j : Nat) (u : Value), ([.int .i64 (IntKind.i64.wrap (z0 + 10)), .int .i64 z1, .int .i64 z2] : List Value)[j]? = some u → V4.cell? ((⟨V0.heap.size, 0, none⟩ : Addr).add j) = some u := fun j u hu => by have h := E1 j u hu; rw [adr] at h ⊢; exact World.grownBy.cell hgrow h (fun e => l01 (by simpa [Value.ownBlock] using e.symm))
                refine hK.out _ _ (ResC.of1 Tb hE') (fun hHeld => ?_)
                clear hK K hown hgrow O1
                (try simp only [Act.put, Ord.a, Ord.b, Ord.c])
                replace hE := hE'
                refine wpAnyH_ready (rs := [13]) (by kernel_rfl) (by simp) ?_
                refine (AllReadyH.cons rfl (fun K hK => ?_) AllReadyH.nil)
                · refine step_append_own rfl (.tmp 60) (.tmp 69) 44 rfl wf.heap.size 55 i0 (Fx 0 0 0) 3 24 Try.underlying44 hi hz0' hz1' hz2' rfl (by decide) v1 fs.length (cellsF fs) (by simp [Act.eval, Act.put]) O2 ⟨V0.heap.size, 0, none⟩ 1 1 [.int .i64 (IntKind.i64.wrap (z0 + 10)), .int .i64 z1, .int .i64 z2] (by simp [Act.eval, Act.put]) rfl E1 one_ones (by unfold maxLen; omega) (by omega) hE.size ?_
                  intro v2 V5 hown hgrow
                  have hE' : Ext wf V5 := grown_ext (w0 := wf) O2 hgrow (Nat.le_refl _) hE
                  have O3 := OwnF.snoc hown
                  obtain ⟨a', cap', rfl, hc', _, hg'⟩ := O3.fxs
                  rcases hg' with hg' | ⟨g', rfl, hg', hO'⟩
                  · simp at hg'
                  refine hK.out _ _ (ResC.of1 Tb hE') (fun hHeld => ?_)
                  clear hK K hown hgrow O2 E1
                  (try simp only [Act.put, Ord.a, Ord.b, Ord.c])
                  replace hE := hE'
                  refine Ord.K 14 71 ?_
                  refine wpAnyH_ready (rs := [15]) (by kernel_rfl) (by simp) ?_
                  refine (AllReadyH.cons rfl (fun K hK => ?_) AllReadyH.nil)
                  · have tW := hE.cellOf (Tb 0 _ rfl).1
                    have tfW := hE.thawOf (Tb 0 _ rfl).1 (Tb 0 _ rfl).2
                    go_simp
                    refine hK.out _ _ (ResC.set hHeld 0 _) (fun hHeld => ?_)
                    clear hK K tW tfW
                    (try simp only [Act.put, Ord.a, Ord.b, Ord.c])
                    refine wpAnyH_done (by kernel_rfl) ?_ _
                    go_wp2
                    go_roundw
                    case rel => exact ⟨g', cap', fs.length + 1, by omega, by omega, by simpa using hc', by omega, by omega, (Tb.ext hE).set 0 (by simp) _, ((R4.out.ext hX).ext hE).away (by simp; omega) _, (show IntRow _ g' (fs.length + 1) by simpa using Own.ints hO').chg ((Chg.refl _ _).setCell 0 _) (by omega), Src.setCell (Src.ext (Src.ext S5.out hX) hE) (by simp; omega) _, (C4.out.trans (Chg.of_ext (hX.trans hE))).setNew (by simp; omega) _⟩
                    case measure => rw [lenAt_eq (World.cell?_setCell_same _ _ _ ((Tb.ext hE) 0 _ rfl).1), hlen2]; simp; omega
        --END
      · go_wp2
        exact anyT_done rr0 hB (by omega) h41 hcap hg I4.out S5.out C4.out rfl
  · obtain ⟨⟨z, d0⟩, f0⟩ := I3.out ((n - 1) * 3) (by omega)
    have i0 : (0 : Int) ≤ (n : Int) - 1 := by omega
    have i1 : (n : Int) - 1 < (n : Int) := by omega
    have X0 : IntKind.i64.wrap ((n : Int) - 1) = (n : Int) - 1 := IntWalk.i64_in _ (by omega)
    have X1 : ((n : Int) - 1).toNat = n - 1 := by omega
    have X2 : (1 : Int) ≤ (n : Int) := by omega
    go_wp2
    exact anyT_done (F := w3.setCell ⟨g, (n - 1) * 3, none⟩ (.int .i64 1000000000)) (by rw [oth _ _ _ _ (by simp; omega)]; exact rr0) hB (by omega) (by omega) hcap (by omega) (I3.out.set _ _) (S3.out.setCell (by simp; omega) _) (C3.out.setNew (by simp; omega) _) rfl
  · have e0' : (q == 0) = false := beq_eq_false_iff_ne.2 e0
    have e1' : (q == 1) = false := beq_eq_false_iff_ne.2 e1
    have e2' : (q == 2) = false := beq_eq_false_iff_ne.2 e2
    have e3' : (q == 3) = false := beq_eq_false_iff_ne.2 e3
    have e4' : (q == 4) = false := beq_eq_false_iff_ne.2 e4
    go_wp2
    exact anyT_done rr0 hB (by omega) (by omega) hcap (by omega) I3.out S3.out C3.out rfl

end Go.Proofs.Ytlheppblioglpaa.Trk
