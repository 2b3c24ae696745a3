/- CrossingPoint (spec). -/
import Derived.Test.YtaliopnhdcdajaaCpt
import Derived.Test.YtaliopnhdcdajaaSpc
import Derived.Deep.DeepCutAuto
namespace Go.Proofs.Ytaliopnhdcdajaa.Rwk
open Go.ChangeShapes Go.WideShapes Go.ChangeAt Go.RowKit
open Go.Proofs.Ytaliopnhdcdajaa.Num Go.Proofs.Ytaliopnhdcdajaa.Kit Go.Proofs.Ytaliopnhdcdajaa.Pts Go.Proofs.Ytaliopnhdcdajaa.Seg Go.Proofs.Ytaliopnhdcdajaa.Gcd Go.Proofs.Ytaliopnhdcdajaa.Crs Go.Proofs.Ytaliopnhdcdajaa.Trk Go.Proofs.Ytaliopnhdcdajaa.Div Go.Proofs.Ytaliopnhdcdajaa.Cmp
set_option linter.unusedVariables false
set_option linter.unusedSimpArgs false

set_option maxRecDepth 100000 in
set_option maxHeartbeats 8000000 in
theorem cpoint_spec (a0 : Option Addr) (cap : Nat) (fs : List F3) (a b c d k : Int) (w : World) (hf : Fxs w a0 fs) :
    Calls Try.prog 22 #[Tr (.slice a0 fs.length cap), Sg a b c d, .int .i64 k] w fun e w' => e = .returned (.tuple #[Pt (cqX fs a b c d k) (cqY fs a b c d k), .int .i64 (cqC fs a b c d k)]) ∧ Ext w w' := by
  obtain ⟨W0, hW0⟩ : ∃ W0, W0 = PW w (.slice a0 fs.length cap) a b c d := ⟨_, rfl⟩
  obtain ⟨hX, c0, c1, c2, c3, c4, bR, hs0⟩ := pw_facts w (.slice a0 fs.length cap) a b c d
  rw [← hW0] at hX c0 c1 c2 c3 c4 bR hs0
  unfold PW at hW0
  have RB := Lib.hid bR
  have HF := Lib.hid (fun w' (h : Ext w w') => hf.ext h)
  have HX := Lib.hid hX
  clear hf bR hX
  go_enter Try.func22, Try.ntmps22
  go_wp2_with fail
  rw [← hW0]
  clear hW0
  refine (isTrack_spec _ _ _ _ (HF.out _ HX.out)).mono ?_
  rintro e w1 ⟨rfl, hx⟩
  cases hv : trB fs
  · have HE := Lib.hid (cq_no (vCr_no1 (a := a) (b := b) (c := c) (d := d) hv) k)
    have RB3 := Lib.hid (RB.out.ext hx)
    obtain ⟨⟨r0, r1⟩, s0, s1⟩ := RB3.out.two
    go_wp2
    exact cps_done RB3.out.set2 (((HX.out.trans hx).setNew (by simp; omega) _).setNew (by simp; omega) _) rfl rfl HE.out.1 HE.out.2.1 HE.out.2.2
  · replace c0 := hx.cellOf c0; replace c1 := hx.cellOf c1; replace c2 := hx.cellOf c2; replace c3 := hx.cellOf c3; replace c4 := hx.cellOf c4
    go_wp2_with fail
    refine (isLine_spec _ _ _ _ _).mono ?_
    rintro e w2 ⟨rfl, hy⟩
    replace hx := hx.trans hy
    replace c0 := hy.cellOf c0; replace c1 := hy.cellOf c1; replace c2 := hy.cellOf c2; replace c3 := hy.cellOf c3; replace c4 := hy.cellOf c4
    clear hy
    cases hs : sgB a b c d
    · have HE := Lib.hid (cq_no (vCr_no2 (fs := fs) hs) k)
      have RB3 := Lib.hid (RB.out.ext hx)
      obtain ⟨⟨r0, r1⟩, s0, s1⟩ := RB3.out.two
      go_wp2
      exact cps_done RB3.out.set2 (((HX.out.trans hx).setNew (by simp; omega) _).setNew (by simp; omega) _) rfl rfl HE.out.1 HE.out.2.1 HE.out.2.2
    · have HLI := Lib.hid (crossings_spec a0 cap fs a b c d w2 (HF.out _ (HX.out.trans hx)) hv hs)
      have hlen := crL_len fs a b c d (fs.length - 1)
      have h40 := (trB_yes hv).1
      have HA := Lib.hid (v_yes (fs := fs) hv hs).1
      have HB := Lib.hid (fun (n : cqIn fs a b c d k) => cq_in hv hs n)
      have HO := Lib.hid (fun (n : ¬ cqIn fs a b c d k) => cq_out (vCr_yes (fs := fs) hv hs) n)
      have HBD := Lib.hid (fun (j : Nat) (hj : j + 1 < fs.length) (hl : lwI fs a b c d j ≠ 0) => And.intro (lx_bd hv hj hs hl) (leg_bounds hv hj).1)
      obtain ⟨cs, hcs⟩ : ∃ cs, cs = crL fs a b c d (fs.length - 1) := ⟨_, rfl⟩
      rw [← hcs] at HLI hlen HA HB
      clear hcs
      go_wp2_with fail
      refine HLI.out.mono ?_
      rintro e w3 ⟨v, rfl, hO, hy⟩
      obtain ⟨ar, cp, rfl, hC⟩ := hO.cxs (by unfold maxLen; omega)
      have HC := Lib.hid hC
      have XY := Lib.hid (HX.out.trans (hx.trans hy))
      have RB3 := Lib.hid (RB.out.ext (hx.trans hy))
      replace c0 := hy.cellOf c0
      have z3 := (hx.trans hy).size
      have T0 : IntKind.i64.wrap ((cs.length : Int) - 1) = (cs.length : Int) - 1 := IntWalk.i64_in _ (by omega)
      clear hC hO hx hy HLI c1 c2 c3 c4
      by_cases hk : 0 ≤ k ∧ k < (cs.length : Int)
      · obtain ⟨k0, k1⟩ := hk
        obtain ⟨j, hj, hl, hc, hX2, hY2, hC2⟩ := HB.out (by unfold cqIn; rw [HA.out]; exact ⟨k0, k1⟩)
        have HE := Lib.hid (And.intro hX2 (And.intro hY2 hC2))
        obtain ⟨⟨_, b1, b2, b3, b4⟩, la, lb, lc, ld⟩ := HBD.out j hj hl
        obtain ⟨b', off, rfl, hb⟩ := HC.out.row (by omega)
        obtain ⟨d0, d1, d2, d3, d4⟩ := hb k.toNat (by omega)
        rw [hc] at d0 d1 d2 d3 d4
        have IB := Lib.hid (inB_yes k0 (show k ≤ (cs.length : Int) - 1 by omega))
        have PX := Lib.hid (fun w' => atS_any (fx fs j).x (fx fs (j + 1)).x (lxN fs a b c d j) (lxD fs a b c d j) w' la lc b1 b2 b3 b4)
        have PY := Lib.hid (fun w' => atS_any (fx fs j).y (fx fs (j + 1)).y (lxN fs a b c d j) (lxD fs a b c d j) w' lb ld b1 b2 b3 b4)
        have PA1 := Lib.hid (fun w' => point_spec (fx fs j).t (fx fs j).x (fx fs j).y w')
        have PA2 := Lib.hid (fun w' => point_spec (fx fs (j + 1)).t (fx fs (j + 1)).x (fx fs (j + 1)).y w')
        obtain ⟨f', o', hfa, hfb⟩ : ∃ f' o', a0 = some ⟨f', o', none⟩ ∧ ∀ w', Ext w w' → ∀ i, i < fs.length → At w' f' (o' + i * 3) (fx fs i) := by
          rcases (HF.out w (Ext.refl w)).2 with h | ⟨f', o', h1, h2⟩
          · rw [h] at hj; simp at hj
          · exact ⟨f', o', h1, fun w' hw i hi => (h2 i hi).ext hw⟩
        subst hfa
        have i0 : (0 : Int) ≤ (j : Int) := by omega
        have i1 : (j : Int) < (fs.length : Int) := by omega
        have i2 : (0 : Int) ≤ (j : Int) + 1 := by omega
        have i3 : (j : Int) + 1 < (fs.length : Int) := by omega
        have T1 : IntKind.i64.wrap ((j : Int) + 1) = (j : Int) + 1 := wrap_succ (by omega)
        have T2 : ((j : Int) + 1).toNat = j + 1 := by omega
        clear hb hX2 hY2 hC2 hc b1 b2 b3 b4 hl la lb lc ld
        obtain ⟨W4, hW4⟩ : ∃ W4, W4 = w3.alloc (.cells #[.int .i64 (legC fs a b c d j).t, .int .i64 (legC fs a b c d j).l, .int .i64 (legC fs a b c d j).g, .int .i64 (legC fs a b c d j).x, .int .i64 (legC fs a b c d j).y] 49) := ⟨_, rfl⟩
        have hx4 : Ext w3 W4 := hW4 ▸ (Ext.refl w3).alloc _
        have RB4 := Lib.hid (RB3.out.ext hx4)
        have X4 := Lib.hid (XY.out.trans hx4)
        have n4 : w3.heap.size ≠ w.heap.size + 1 + 1 := by omega
        have z4 : w3.heap.size < W4.heap.size := by rw [hW4]; simp
        have q1 : W4.cell? ⟨w3.heap.size, 1, none⟩ = some (.int .i64 (j : Int)) := by rw [hW4]; exact boxed 1 rfl rfl
        have q3 : W4.cell? ⟨w3.heap.size, 3, none⟩ = some (.int .i64 (lxN fs a b c d j)) := by rw [hW4]; exact boxed 3 rfl rfl
        have q4 : W4.cell? ⟨w3.heap.size, 4, none⟩ = some (.int .i64 (lxD fs a b c d j)) := by rw [hW4]; exact boxed 4 rfl rfl
        have et : ∀ w', Ext W4 w' → w'.cell? ⟨w.heap.size, 0, none⟩ = some (.slice (some ⟨f', o', none⟩) fs.length cap) := fun w' h => h.cellOf (hx4.cellOf c0)
        have e1 : ∀ w', Ext W4 w' → w'.cell? ⟨w3.heap.size, 1, none⟩ = some (.int .i64 (j : Int)) := fun w' h => h.cellOf q1
        have g0 : ∀ w', Ext W4 w' → w'.cell? ⟨f', o' + j * 3, none⟩ = some (.int .i64 (fx fs j).t) := fun w' h => (hfb w' (X4.out.trans h) j (by omega)).1
        have g1 : ∀ w', Ext W4 w' → w'.cell? ⟨f', o' + j * 3 + 1, none⟩ = some (.int .i64 (fx fs j).x) := fun w' h => (hfb w' (X4.out.trans h) j (by omega)).2.1
        have g2 : ∀ w', Ext W4 w' → w'.cell? ⟨f', o' + j * 3 + 2, none⟩ = some (.int .i64 (fx fs j).y) := fun w' h => (hfb w' (X4.out.trans h) j (by omega)).2.2
        have g3 : ∀ w', Ext W4 w' → w'.cell? ⟨f', o' + (j + 1) * 3, none⟩ = some (.int .i64 (fx fs (j + 1)).t) := fun w' h => (hfb w' (X4.out.trans h) (j + 1) hj).1
        have g4 : ∀ w', Ext W4 w' → w'.cell? ⟨f', o' + (j + 1) * 3 + 1, none⟩ = some (.int .i64 (fx fs (j + 1)).x) := fun w' h => (hfb w' (X4.out.trans h) (j + 1) hj).2.1
        have g5 : ∀ w', Ext W4 w' → w'.cell? ⟨f', o' + (j + 1) * 3 + 2, none⟩ = some (.int .i64 (fx fs (j + 1)).y) := fun w' h => (hfb w' (X4.out.trans h) (j + 1) hj).2.2
        go_wp2_with fail
        refine (in_any _ _ _ _).mono ?_
        rw [IB.out]
        rintro e w5 ⟨rfl, rfl⟩
        go_upto_region 7 with fail
        rw [← hW4]
        clear hW4 d0 d1 d2 d3 d4 c0
        go_cut [10, 11] (fun s u wx => (∃ B, s = .pointer (some ⟨B, 0, none⟩) ∧ B ≠ w.heap.size + 1 + 1 ∧ Box wx B [.int .i64 (fx fs j).x, .int .i64 (fx fs j).y]) ∧ (∃ B, u = .pointer (some ⟨B, 0, none⟩) ∧ B ≠ w.heap.size + 1 + 1 ∧ Box wx B [.int .i64 (fx fs (j + 1)).x, .int .i64 (fx fs (j + 1)).y]) ∧ Ext W4 wx)
        case first =>
          refine wp_region_held_drew (S := fun w' => Ext W4 w') (by kernel_rfl) (by (try dsimp only); exact (Ext.refl _).drew) (fun hHeld => ?_)
          (refine Ord.takeH 0 35 (v := ?_) rfl rfl (by kernel_rfl) (by kernel_rfl) (by kernel_rfl) (fun _ _ _ h => h) (by rfl) ?_ (by assumption) ?_; rotate_left; (intro w hSw; (try dsimp only at hSw); go_simp; (first | done | with_reducible rfl)); (try simp only [Act.put, List.setIfInBounds_toArray, List.set_cons_zero, List.set_cons_succ])); (refine Ord.takeH 1 36 (v := ?_) rfl rfl (by kernel_rfl) (by kernel_rfl) (by kernel_rfl) (fun _ _ _ h => h) (by rfl) ?_ (by assumption) ?_; rotate_left; (intro w hSw; (try dsimp only at hSw); go_simp; (first | done | with_reducible rfl)); (try simp only [Act.put, List.setIfInBounds_toArray, List.set_cons_zero, List.set_cons_succ])); (refine Ord.takeH 2 37 (v := ?_) rfl rfl (by kernel_rfl) (by kernel_rfl) (by kernel_rfl) (fun _ _ _ h => h) (by rfl) ?_ (by assumption) ?_; rotate_left; (intro w hSw; (try dsimp only at hSw); go_simp; (first | done | with_reducible rfl)); (try simp only [Act.put, List.setIfInBounds_toArray, List.set_cons_zero, List.set_cons_succ])); (refine Ord.takeH 3 38 (v := ?_) rfl rfl (by kernel_rfl) (by kernel_rfl) (by kernel_rfl) (fun _ _ _ h => h) (by rfl) ?_ (by assumption) ?_; rotate_left; (intro w hSw; (try dsimp only at hSw); go_simp; (first | done | with_reducible rfl)); (try simp only [Act.put, List.setIfInBounds_toArray, List.set_cons_zero, List.set_cons_succ])); (refine Ord.takeH 4 39 (v := ?_) rfl rfl (by kernel_rfl) (by kernel_rfl) (by kernel_rfl) (fun _ _ _ h => h) (by rfl) ?_ (by assumption) ?_; rotate_left; (intro w hSw; (try dsimp only at hSw); go_simp; (first | done | with_reducible rfl)); (try simp only [Act.put, List.setIfInBounds_toArray, List.set_cons_zero, List.set_cons_succ])); (refine Ord.takeH 5 40 (v := ?_) rfl rfl (by kernel_rfl) (by kernel_rfl) (by kernel_rfl) (fun _ _ _ h => h) (by rfl) ?_ (by assumption) ?_; rotate_left; (intro w hSw; (try dsimp only at hSw); go_simp; (first | done | with_reducible rfl)); (try simp only [Act.put, List.setIfInBounds_toArray, List.set_cons_zero, List.set_cons_succ])); (refine Ord.takeH 7 42 (v := ?_) rfl rfl (by kernel_rfl) (by kernel_rfl) (by kernel_rfl) (fun _ _ _ h => h) (by rfl) ?_ (by assumption) ?_; rotate_left; (intro w hSw; (try dsimp only at hSw); go_simp; (first | done | with_reducible rfl)); (try simp only [Act.put, List.setIfInBounds_toArray, List.set_cons_zero, List.set_cons_succ])); (refine Ord.takeH 8 43 (v := ?_) rfl rfl (by kernel_rfl) (by kernel_rfl) (by kernel_rfl) (fun _ _ _ h => h) (by rfl) ?_ (by assumption) ?_; rotate_left; (intro w hSw; (try dsimp only at hSw); go_simp; (first | done | with_reducible rfl)); (try simp only [Act.put, List.setIfInBounds_toArray, List.set_cons_zero, List.set_cons_succ])); (refine Ord.takeH 9 44 (v := ?_) rfl rfl (by kernel_rfl) (by kernel_rfl) (by kernel_rfl) (fun _ _ _ h => h) (by rfl) ?_ (by assumption) ?_; rotate_left; (intro w hSw; (try dsimp only at hSw); go_simp; (first | done | with_reducible rfl)); (try simp only [Act.put, List.setIfInBounds_toArray, List.set_cons_zero, List.set_cons_succ])); (refine Ord.takeH 10 45 (v := ?_) rfl rfl (by kernel_rfl) (by kernel_rfl) (by kernel_rfl) (fun _ _ _ h => h) (by rfl) ?_ (by assumption) ?_; rotate_left; (intro w hSw; (try dsimp only at hSw); go_simp; (first | done | with_reducible rfl)); (try simp only [Act.put, List.setIfInBounds_toArray, List.set_cons_zero, List.set_cons_succ])); (refine Ord.takeH 11 46 (v := ?_) rfl rfl (by kernel_rfl) (by kernel_rfl) (by kernel_rfl) (fun _ _ _ h => h) (by rfl) ?_ (by assumption) ?_; rotate_left; (intro w hSw; (try dsimp only at hSw); go_simp; (first | done | with_reducible rfl)); (try simp only [Act.put, List.setIfInBounds_toArray, List.set_cons_zero, List.set_cons_succ])); (refine Ord.takeH 12 47 (v := ?_) rfl rfl (by kernel_rfl) (by kernel_rfl) (by kernel_rfl) (fun _ _ _ h => h) (by rfl) ?_ (by assumption) ?_; rotate_left; (intro w hSw; (try dsimp only at hSw); go_simp; (first | done | with_reducible rfl)); (try simp only [Act.put, List.setIfInBounds_toArray, List.set_cons_zero, List.set_cons_succ])); (refine Ord.takeH 13 48 (v := ?_) rfl rfl (by kernel_rfl) (by kernel_rfl) (by kernel_rfl) (fun _ _ _ h => h) (by rfl) ?_ (by assumption) ?_; rotate_left; (intro w hSw; (try dsimp only at hSw); go_simp; (first | done | with_reducible rfl)); (try simp only [Act.put, List.setIfInBounds_toArray, List.set_cons_zero, List.set_cons_succ]))
          have hE : Ext W4 W4.drew := (Ext.refl W4).drew
          obtain ⟨V0, hV0⟩ : ∃ V0, V0 = W4.drew := ⟨_, rfl⟩
          rw [← hV0] at hE hHeld ⊢
          clear hV0
          refine wpAnyH_ready (rs := [6, 15, 16]) (by kernel_rfl) (by simp) ?_
          refine (AllReadyH.cons rfl (fun K hK => ?_) (AllReadyH.cons rfl (fun K hK => ?_) (AllReadyH.cons rfl (fun K hK => ?_) AllReadyH.nil)))
          · go_simp
            go_at_call 55
            refine (PA1.out _).mono ?_
            rintro e V1 ⟨rfl, hy⟩
            go_wp2_with fail
            have zy := Ext.size hy
            have hE' := hE.trans hy
            refine hK.out _ _ hE' (fun hHeld => ?_)
            clear hK K
            (try simp only [Act.put, List.setIfInBounds_toArray, List.set_cons_zero, List.set_cons_succ])
            replace hE := hE'
            clear hE' hy
            refine wpAnyH_ready (rs := [14, 15, 16]) (by kernel_rfl) (by simp) ?_
            refine (AllReadyH.cons rfl (fun K hK => ?_) (AllReadyH.cons rfl (fun K hK => ?_) (AllReadyH.cons rfl (fun K hK => ?_) AllReadyH.nil)))
            · go_simp
              go_at_call 55
              refine (PA2.out _).mono ?_
              rintro e V2 ⟨rfl, hy⟩
              go_wp2_with fail
              have zy := Ext.size hy
              have hE' := hE.trans hy
              refine hK.out _ _ hE' (fun hHeld => ?_)
              clear hK K
              (try simp only [Act.put, List.setIfInBounds_toArray, List.set_cons_zero, List.set_cons_succ])
              replace hE := hE'
              clear hE' hy
              refine wpAnyH_ready (rs := [15, 16]) (by kernel_rfl) (by simp) ?_
              refine (AllReadyH.cons rfl (fun K hK => ?_) (AllReadyH.cons rfl (fun K hK => ?_) AllReadyH.nil))
              · go_simp
                have hE' : Ext W4 (V2.alloc (.cells #[.int .i64 0, .int .i64 0] 37)) := hE.alloc _
                refine hK.out _ _ hE' (fun hHeld => ?_)
                clear hK K
                (try simp only [Act.put, List.setIfInBounds_toArray, List.set_cons_zero, List.set_cons_succ])
                have P15 := Box.new2 (w := V2) (x := .int .i64 0) (y := .int .i64 0) (t := 37) rfl
                have zV2 := Ext.size hE
                have yV2 : V2.heap.size < (V2.alloc (.cells #[.int .i64 0, .int .i64 0] 37)).heap.size := by simp
                replace hE := hE'
                clear hE'
                generalize V2.alloc (.cells #[.int .i64 0, .int .i64 0] 37) = V3 at *
                refine wpAnyH_ready (rs := [16]) (by kernel_rfl) (by simp) ?_
                refine (AllReadyH.cons rfl (fun K hK => ?_) AllReadyH.nil)
                · go_simp
                  have hE' : Ext W4 (V3.alloc (.cells #[.int .i64 0, .int .i64 0] 37)) := hE.alloc _
                  refine hK.out _ _ hE' (fun hHeld => ?_)
                  clear hK K
                  (try simp only [Act.put, List.setIfInBounds_toArray, List.set_cons_zero, List.set_cons_succ])
                  replace P15 := P15.alloc (.cells #[.int .i64 0, .int .i64 0] 37)
                  have P16 := Box.new2 (w := V3) (x := .int .i64 0) (y := .int .i64 0) (t := 37) rfl
                  have zV3 := Ext.size hE
                  have yV3 : V3.heap.size < (V3.alloc (.cells #[.int .i64 0, .int .i64 0] 37)).heap.size := by simp
                  replace hE := hE'
                  clear hE'
                  generalize V3.alloc (.cells #[.int .i64 0, .int .i64 0] 37) = V4 at *
                  obtain ⟨⟨r0, r1⟩, r2, r3⟩ := P15.two
                  refine wpAnyH_ready (rs := [17]) (by kernel_rfl) (by simp) ?_
                  refine AllReadyH.cons rfl (fun K hK => ?_) AllReadyH.nil
                  go_simp
                  have hE' : Ext W4 ((V4.setCell ⟨V2.heap.size, 0, none⟩ (.int .i64 (fx fs j).x)).setCell ⟨V2.heap.size, 1, none⟩ (.int .i64 (fx fs j).y)) := (hE.setNew (by simp; omega) _).setNew (by simp; omega) _
                  refine hK.out _ _ hE' (fun hHeld => ?_)
                  clear hK K r0 r1 r2 r3
                  (try simp only [Act.put, List.setIfInBounds_toArray, List.set_cons_zero, List.set_cons_succ])
                  replace P15 := P15.set2 (u := .int .i64 (fx fs j).x) (v := .int .i64 (fx fs j).y)
                  replace P16 := P16.away2 (m := V2.heap.size) (i := 0) (j := 1) (u := .int .i64 (fx fs j).x) (v := .int .i64 (fx fs j).y) (by omega)
                  replace hE := hE'
                  clear hE'
                  generalize (V4.setCell ⟨V2.heap.size, 0, none⟩ (.int .i64 (fx fs j).x)).setCell ⟨V2.heap.size, 1, none⟩ (.int .i64 (fx fs j).y) = V5 at *
                  obtain ⟨⟨r0, r1⟩, r2, r3⟩ := P16.two
                  refine wpAnyH_ready (rs := [18]) (by kernel_rfl) (by simp) ?_
                  refine AllReadyH.cons rfl (fun K hK => ?_) AllReadyH.nil
                  go_simp
                  have hE' : Ext W4 ((V5.setCell ⟨V3.heap.size, 0, none⟩ (.int .i64 (fx fs (j + 1)).x)).setCell ⟨V3.heap.size, 1, none⟩ (.int .i64 (fx fs (j + 1)).y)) := (hE.setNew (by simp; omega) _).setNew (by simp; omega) _
                  refine hK.out _ _ hE' (fun hHeld => ?_)
                  clear hK K r0 r1 r2 r3
                  (try simp only [Act.put, List.setIfInBounds_toArray, List.set_cons_zero, List.set_cons_succ])
                  replace P16 := P16.set2 (u := .int .i64 (fx fs (j + 1)).x) (v := .int .i64 (fx fs (j + 1)).y)
                  replace P15 := P15.away2 (m := V3.heap.size) (i := 0) (j := 1) (u := .int .i64 (fx fs (j + 1)).x) (v := .int .i64 (fx fs (j + 1)).y) (by omega)
                  replace hE := hE'
                  clear hE'
                  generalize (V5.setCell ⟨V3.heap.size, 0, none⟩ (.int .i64 (fx fs (j + 1)).x)).setCell ⟨V3.heap.size, 1, none⟩ (.int .i64 (fx fs (j + 1)).y) = V6 at *
                  refine wpAnyH_done (by kernel_rfl) ?_ _
                  go_wp2_with fail
                  go_meet
                  exact ⟨⟨_, rfl, by omega, P15⟩, ⟨_, rfl, by omega, P16⟩, hE⟩
              · go_simp
                have hE' : Ext W4 (V2.alloc (.cells #[.int .i64 0, .int .i64 0] 37)) := hE.alloc _
                refine hK.out _ _ hE' (fun hHeld => ?_)
                clear hK K
                (try simp only [Act.put, List.setIfInBounds_toArray, List.set_cons_zero, List.set_cons_succ])
                have P16 := Box.new2 (w := V2) (x := .int .i64 0) (y := .int .i64 0) (t := 37) rfl
                have zV2 := Ext.size hE
                have yV2 : V2.heap.size < (V2.alloc (.cells #[.int .i64 0, .int .i64 0] 37)).heap.size := by simp
                replace hE := hE'
                clear hE'
                generalize V2.alloc (.cells #[.int .i64 0, .int .i64 0] 37) = V3 at *
                refine wpAnyH_ready (rs := [15]) (by kernel_rfl) (by simp) ?_
                refine (AllReadyH.cons rfl (fun K hK => ?_) AllReadyH.nil)
                · go_simp
                  have hE' : Ext W4 (V3.alloc (.cells #[.int .i64 0, .int .i64 0] 37)) := hE.alloc _
                  refine hK.out _ _ hE' (fun hHeld => ?_)
                  clear hK K
                  (try simp only [Act.put, List.setIfInBounds_toArray, List.set_cons_zero, List.set_cons_succ])
                  replace P16 := P16.alloc (.cells #[.int .i64 0, .int .i64 0] 37)
                  have P15 := Box.new2 (w := V3) (x := .int .i64 0) (y := .int .i64 0) (t := 37) rfl
                  have zV3 := Ext.size hE
                  have yV3 : V3.heap.size < (V3.alloc (.cells #[.int .i64 0, .int .i64 0] 37)).heap.size := by simp
                  replace hE := hE'
                  clear hE'
                  generalize V3.alloc (.cells #[.int .i64 0, .int .i64 0] 37) = V4 at *
                  obtain ⟨⟨r0, r1⟩, r2, r3⟩ := P15.two
                  refine wpAnyH_ready (rs := [17]) (by kernel_rfl) (by simp) ?_
                  refine AllReadyH.cons rfl (fun K hK => ?_) AllReadyH.nil
                  go_simp
                  have hE' : Ext W4 ((V4.setCell ⟨V3.heap.size, 0, none⟩ (.int .i64 (fx fs j).x)).setCell ⟨V3.heap.size, 1, none⟩ (.int .i64 (fx fs j).y)) := (hE.setNew (by simp; omega) _).setNew (by simp; omega) _
                  refine hK.out _ _ hE' (fun hHeld => ?_)
                  clear hK K r0 r1 r2 r3
                  (try simp only [Act.put, List.setIfInBounds_toArray, List.set_cons_zero, List.set_cons_succ])
                  replace P15 := P15.set2 (u := .int .i64 (fx fs j).x) (v := .int .i64 (fx fs j).y)
                  replace P16 := P16.away2 (m := V3.heap.size) (i := 0) (j := 1) (u := .int .i64 (fx fs j).x) (v := .int .i64 (fx fs j).y) (by omega)
                  replace hE := hE'
                  clear hE'
                  generalize (V4.setCell ⟨V3.heap.size, 0, none⟩ (.int .i64 (fx fs j).x)).setCell ⟨V3.heap.size, 1, none⟩ (.int .i64 (fx fs j).y) = V5 at *
                  obtain ⟨⟨r0, r1⟩, r2, r3⟩ := P16.two
                  refine wpAnyH_ready (rs := [18]) (by kernel_rfl) (by simp) ?_
                  refine AllReadyH.cons rfl (fun K hK => ?_) AllReadyH.nil
                  go_simp
                  have hE' : Ext W4 ((V5.setCell ⟨V2.heap.size, 0, none⟩ (.int .i64 (fx fs (j + 1)).x)).setCell ⟨V2.heap.size, 1, none⟩ (.int .i64 (fx fs (j + 1)).y)) := (hE.setNew (by simp; omega) _).setNew (by simp; omega) _
                  refine hK.out _ _ hE' (fun hHeld => ?_)
                  clear hK K r0 r1 r2 r3
                  (try simp only [Act.put, List.setIfInBounds_toArray, List.set_cons_zero, List.set_cons_succ])
                  replace P16 := P16.set2 (u := .int .i64 (fx fs (j + 1)).x) (v := .int .i64 (fx fs (j + 1)).y)
                  replace P15 := P15.away2 (m := V2.heap.size) (i := 0) (j := 1) (u := .int .i64 (fx fs (j + 1)).x) (v := .int .i64 (fx fs (j + 1)).y) (by omega)
                  replace hE := hE'
                  clear hE'
                  generalize (V5.setCell ⟨V2.heap.size, 0, none⟩ (.int .i64 (fx fs (j + 1)).x)).setCell ⟨V2.heap.size, 1, none⟩ (.int .i64 (fx fs (j + 1)).y) = V6 at *
                  refine wpAnyH_done (by kernel_rfl) ?_ _
                  go_wp2_with fail
                  go_meet
                  exact ⟨⟨_, rfl, by omega, P15⟩, ⟨_, rfl, by omega, P16⟩, hE⟩
            · go_simp
              have hE' : Ext W4 (V1.alloc (.cells #[.int .i64 0, .int .i64 0] 37)) := hE.alloc _
              refine hK.out _ _ hE' (fun hHeld => ?_)
              clear hK K
              (try simp only [Act.put, List.setIfInBounds_toArray, List.set_cons_zero, List.set_cons_succ])
              have P15 := Box.new2 (w := V1) (x := .int .i64 0) (y := .int .i64 0) (t := 37) rfl
              have zV1 := Ext.size hE
              have yV1 : V1.heap.size < (V1.alloc (.cells #[.int .i64 0, .int .i64 0] 37)).heap.size := by simp
              replace hE := hE'
              clear hE'
              generalize V1.alloc (.cells #[.int .i64 0, .int .i64 0] 37) = V2 at *
              refine wpAnyH_ready (rs := [14, 16]) (by kernel_rfl) (by simp) ?_
              refine (AllReadyH.cons rfl (fun K hK => ?_) (AllReadyH.cons rfl (fun K hK => ?_) AllReadyH.nil))
              · go_simp
                go_at_call 55
                refine (PA2.out _).mono ?_
                rintro e V3 ⟨rfl, hy⟩
                go_wp2_with fail
                have zy := Ext.size hy
                have hE' := hE.trans hy
                refine hK.out _ _ hE' (fun hHeld => ?_)
                clear hK K
                (try simp only [Act.put, List.setIfInBounds_toArray, List.set_cons_zero, List.set_cons_succ])
                replace P15 := P15.ext hy
                replace hE := hE'
                clear hE' hy
                refine wpAnyH_ready (rs := [16]) (by kernel_rfl) (by simp) ?_
                refine (AllReadyH.cons rfl (fun K hK => ?_) AllReadyH.nil)
                · go_simp
                  have hE' : Ext W4 (V3.alloc (.cells #[.int .i64 0, .int .i64 0] 37)) := hE.alloc _
                  refine hK.out _ _ hE' (fun hHeld => ?_)
                  clear hK K
                  (try simp only [Act.put, List.setIfInBounds_toArray, List.set_cons_zero, List.set_cons_succ])
                  replace P15 := P15.alloc (.cells #[.int .i64 0, .int .i64 0] 37)
                  have P16 := Box.new2 (w := V3) (x := .int .i64 0) (y := .int .i64 0) (t := 37) rfl
                  have zV3 := Ext.size hE
                  have yV3 : V3.heap.size < (V3.alloc (.cells #[.int .i64 0, .int .i64 0] 37)).heap.size := by simp
                  replace hE := hE'
                  clear hE'
                  generalize V3.alloc (.cells #[.int .i64 0, .int .i64 0] 37) = V4 at *
                  obtain ⟨⟨r0, r1⟩, r2, r3⟩ := P15.two
                  refine wpAnyH_ready (rs := [17]) (by kernel_rfl) (by simp) ?_
                  refine AllReadyH.cons rfl (fun K hK => ?_) AllReadyH.nil
                  go_simp
                  have hE' : Ext W4 ((V4.setCell ⟨V1.heap.size, 0, none⟩ (.int .i64 (fx fs j).x)).setCell ⟨V1.heap.size, 1, none⟩ (.int .i64 (fx fs j).y)) := (hE.setNew (by simp; omega) _).setNew (by simp; omega) _
                  refine hK.out _ _ hE' (fun hHeld => ?_)
                  clear hK K r0 r1 r2 r3
                  (try simp only [Act.put, List.setIfInBounds_toArray, List.set_cons_zero, List.set_cons_succ])
                  replace P15 := P15.set2 (u := .int .i64 (fx fs j).x) (v := .int .i64 (fx fs j).y)
                  replace P16 := P16.away2 (m := V1.heap.size) (i := 0) (j := 1) (u := .int .i64 (fx fs j).x) (v := .int .i64 (fx fs j).y) (by omega)
                  replace hE := hE'
                  clear hE'
                  generalize (V4.setCell ⟨V1.heap.size, 0, none⟩ (.int .i64 (fx fs j).x)).setCell ⟨V1.heap.size, 1, none⟩ (.int .i64 (fx fs j).y) = V5 at *
                  obtain ⟨⟨r0, r1⟩, r2, r3⟩ := P16.two
                  refine wpAnyH_ready (rs := [18]) (by kernel_rfl) (by simp) ?_
                  refine AllReadyH.cons rfl (fun K hK => ?_) AllReadyH.nil
                  go_simp
                  have hE' : Ext W4 ((V5.setCell ⟨V3.heap.size, 0, none⟩ (.int .i64 (fx fs (j + 1)).x)).setCell ⟨V3.heap.size, 1, none⟩ (.int .i64 (fx fs (j + 1)).y)) := (hE.setNew (by simp; omega) _).setNew (by simp; omega) _
                  refine hK.out _ _ hE' (fun hHeld => ?_)
                  clear hK K r0 r1 r2 r3
                  (try simp only [Act.put, List.setIfInBounds_toArray, List.set_cons_zero, List.set_cons_succ])
                  replace P16 := P16.set2 (u := .int .i64 (fx fs (j + 1)).x) (v := .int .i64 (fx fs (j + 1)).y)
                  replace P15 := P15.away2 (m := V3.heap.size) (i := 0) (j := 1) (u := .int .i64 (fx fs (j + 1)).x) (v := .int .i64 (fx fs (j + 1)).y) (by omega)
                  replace hE := hE'
                  clear hE'
                  generalize (V5.setCell ⟨V3.heap.size, 0, none⟩ (.int .i64 (fx fs (j + 1)).x)).setCell ⟨V3.heap.size, 1, none⟩ (.int .i64 (fx fs (j + 1)).y) = V6 at *
                  refine wpAnyH_done (by kernel_rfl) ?_ _
                  go_wp2_with fail
                  go_meet
                  exact ⟨⟨_, rfl, by omega, P15⟩, ⟨_, rfl, by omega, P16⟩, hE⟩
              · go_simp
                have hE' : Ext W4 (V2.alloc (.cells #[.int .i64 0, .int .i64 0] 37)) := hE.alloc _
                refine hK.out _ _ hE' (fun hHeld => ?_)
                clear hK K
                (try simp only [Act.put, List.setIfInBounds_toArray, List.set_cons_zero, List.set_cons_succ])
                replace P15 := P15.alloc (.cells #[.int .i64 0, .int .i64 0] 37)
                have P16 := Box.new2 (w := V2) (x := .int .i64 0) (y := .int .i64 0) (t := 37) rfl
                have zV2 := Ext.size hE
                have yV2 : V2.heap.size < (V2.alloc (.cells #[.int .i64 0, .int .i64 0] 37)).heap.size := by simp
                replace hE := hE'
                clear hE'
                generalize V2.alloc (.cells #[.int .i64 0, .int .i64 0] 37) = V3 at *
                refine wpAnyH_ready (rs := [14]) (by kernel_rfl) (by simp) ?_
                refine (AllReadyH.cons rfl (fun K hK => ?_) AllReadyH.nil)
                · go_simp
                  go_at_call 55
                  refine (PA2.out _).mono ?_
                  rintro e V4 ⟨rfl, hy⟩
                  go_wp2_with fail
                  have zy := Ext.size hy
                  have hE' := hE.trans hy
                  refine hK.out _ _ hE' (fun hHeld => ?_)
                  clear hK K
                  (try simp only [Act.put, List.setIfInBounds_toArray, List.set_cons_zero, List.set_cons_succ])
                  replace P15 := P15.ext hy
                  replace P16 := P16.ext hy
                  replace hE := hE'
                  clear hE' hy
                  obtain ⟨⟨r0, r1⟩, r2, r3⟩ := P15.two
                  refine wpAnyH_ready (rs := [17]) (by kernel_rfl) (by simp) ?_
                  refine AllReadyH.cons rfl (fun K hK => ?_) AllReadyH.nil
                  go_simp
                  have hE' : Ext W4 ((V4.setCell ⟨V1.heap.size, 0, none⟩ (.int .i64 (fx fs j).x)).setCell ⟨V1.heap.size, 1, none⟩ (.int .i64 (fx fs j).y)) := (hE.setNew (by simp; omega) _).setNew (by simp; omega) _
                  refine hK.out _ _ hE' (fun hHeld => ?_)
                  clear hK K r0 r1 r2 r3
                  (try simp only [Act.put, List.setIfInBounds_toArray, List.set_cons_zero, List.set_cons_succ])
                  replace P15 := P15.set2 (u := .int .i64 (fx fs j).x) (v := .int .i64 (fx fs j).y)
                  replace P16 := P16.away2 (m := V1.heap.size) (i := 0) (j := 1) (u := .int .i64 (fx fs j).x) (v := .int .i64 (fx fs j).y) (by omega)
                  replace hE := hE'
                  clear hE'
                  generalize (V4.setCell ⟨V1.heap.size, 0, none⟩ (.int .i64 (fx fs j).x)).setCell ⟨V1.heap.size, 1, none⟩ (.int .i64 (fx fs j).y) = V5 at *
                  obtain ⟨⟨r0, r1⟩, r2, r3⟩ := P16.two
                  refine wpAnyH_ready (rs := [18]) (by kernel_rfl) (by simp) ?_
                  refine AllReadyH.cons rfl (fun K hK => ?_) AllReadyH.nil
                  go_simp
                  have hE' : Ext W4 ((V5.setCell ⟨V2.heap.size, 0, none⟩ (.int .i64 (fx fs (j + 1)).x)).setCell ⟨V2.heap.size, 1, none⟩ (.int .i64 (fx fs (j + 1)).y)) := (hE.setNew (by simp; omega) _).setNew (by simp; omega) _
                  refine hK.out _ _ hE' (fun hHeld => ?_)
                  clear hK K r0 r1 r2 r3
                  (try simp only [Act.put, List.setIfInBounds_toArray, List.set_cons_zero, List.set_cons_succ])
                  replace P16 := P16.set2 (u := .int .i64 (fx fs (j + 1)).x) (v := .int .i64 (fx fs (j + 1)).y)
                  replace P15 := P15.away2 (m := V2.heap.size) (i := 0) (j := 1) (u := .int .i64 (fx fs (j + 1)).x) (v := .int .i64 (fx fs (j + 1)).y) (by omega)
                  replace hE := hE'
                  clear hE'
                  generalize (V5.setCell ⟨V2.heap.size, 0, none⟩ (.int .i64 (fx fs (j + 1)).x)).setCell ⟨V2.heap.size, 1, none⟩ (.int .i64 (fx fs (j + 1)).y) = V6 at *
                  refine wpAnyH_done (by kernel_rfl) ?_ _
                  go_wp2_with fail
                  go_meet
                  exact ⟨⟨_, rfl, by omega, P15⟩, ⟨_, rfl, by omega, P16⟩, hE⟩
            · go_simp
              have hE' : Ext W4 (V1.alloc (.cells #[.int .i64 0, .int .i64 0] 37)) := hE.alloc _
              refine hK.out _ _ hE' (fun hHeld => ?_)
              clear hK K
              (try simp only [Act.put, List.setIfInBounds_toArray, List.set_cons_zero, List.set_cons_succ])
              have P16 := Box.new2 (w := V1) (x := .int .i64 0) (y := .int .i64 0) (t := 37) rfl
              have zV1 := Ext.size hE
              have yV1 : V1.heap.size < (V1.alloc (.cells #[.int .i64 0, .int .i64 0] 37)).heap.size := by simp
              replace hE := hE'
              clear hE'
              generalize V1.alloc (.cells #[.int .i64 0, .int .i64 0] 37) = V2 at *
              refine wpAnyH_ready (rs := [14, 15]) (by kernel_rfl) (by simp) ?_
              refine (AllReadyH.cons rfl (fun K hK => ?_) (AllReadyH.cons rfl (fun K hK => ?_) AllReadyH.nil))
              · go_simp
                go_at_call 55
                refine (PA2.out _).mono ?_
                rintro e V3 ⟨rfl, hy⟩
                go_wp2_with fail
                have zy := Ext.size hy
                have hE' := hE.trans hy
                refine hK.out _ _ hE' (fun hHeld => ?_)
                clear hK K
                (try simp only [Act.put, List.setIfInBounds_toArray, List.set_cons_zero, List.set_cons_succ])
                replace P16 := P16.ext hy
                replace hE := hE'
                clear hE' hy
                refine wpAnyH_ready (rs := [15]) (by kernel_rfl) (by simp) ?_
                refine (AllReadyH.cons rfl (fun K hK => ?_) AllReadyH.nil)
                · go_simp
                  have hE' : Ext W4 (V3.alloc (.cells #[.int .i64 0, .int .i64 0] 37)) := hE.alloc _
                  refine hK.out _ _ hE' (fun hHeld => ?_)
                  clear hK K
                  (try simp only [Act.put, List.setIfInBounds_toArray, List.set_cons_zero, List.set_cons_succ])
                  replace P16 := P16.alloc (.cells #[.int .i64 0, .int .i64 0] 37)
                  have P15 := Box.new2 (w := V3) (x := .int .i64 0) (y := .int .i64 0) (t := 37) rfl
                  have zV3 := Ext.size hE
                  have yV3 : V3.heap.size < (V3.alloc (.cells #[.int .i64 0, .int .i64 0] 37)).heap.size := by simp
                  replace hE := hE'
                  clear hE'
                  generalize V3.alloc (.cells #[.int .i64 0, .int .i64 0] 37) = V4 at *
                  obtain ⟨⟨r0, r1⟩, r2, r3⟩ := P15.two
                  refine wpAnyH_ready (rs := [17]) (by kernel_rfl) (by simp) ?_
                  refine AllReadyH.cons rfl (fun K hK => ?_) AllReadyH.nil
                  go_simp
                  have hE' : Ext W4 ((V4.setCell ⟨V3.heap.size, 0, none⟩ (.int .i64 (fx fs j).x)).setCell ⟨V3.heap.size, 1, none⟩ (.int .i64 (fx fs j).y)) := (hE.setNew (by simp; omega) _).setNew (by simp; omega) _
                  refine hK.out _ _ hE' (fun hHeld => ?_)
                  clear hK K r0 r1 r2 r3
                  (try simp only [Act.put, List.setIfInBounds_toArray, List.set_cons_zero, List.set_cons_succ])
                  replace P15 := P15.set2 (u := .int .i64 (fx fs j).x) (v := .int .i64 (fx fs j).y)
                  replace P16 := P16.away2 (m := V3.heap.size) (i := 0) (j := 1) (u := .int .i64 (fx fs j).x) (v := .int .i64 (fx fs j).y) (by omega)
                  replace hE := hE'
                  clear hE'
                  generalize (V4.setCell ⟨V3.heap.size, 0, none⟩ (.int .i64 (fx fs j).x)).setCell ⟨V3.heap.size, 1, none⟩ (.int .i64 (fx fs j).y) = V5 at *
                  obtain ⟨⟨r0, r1⟩, r2, r3⟩ := P16.two
                  refine wpAnyH_ready (rs := [18]) (by kernel_rfl) (by simp) ?_
                  refine AllReadyH.cons rfl (fun K hK => ?_) AllReadyH.nil
                  go_simp
                  have hE' : Ext W4 ((V5.setCell ⟨V1.heap.size, 0, none⟩ (.int .i64 (fx fs (j + 1)).x)).setCell ⟨V1.heap.size, 1, none⟩ (.int .i64 (fx fs (j + 1)).y)) := (hE.setNew (by simp; omega) _).setNew (by simp; omega) _
                  refine hK.out _ _ hE' (fun hHeld => ?_)
                  clear hK K r0 r1 r2 r3
                  (try simp only [Act.put, List.setIfInBounds_toArray, List.set_cons_zero, List.set_cons_succ])
                  replace P16 := P16.set2 (u := .int .i64 (fx fs (j + 1)).x) (v := .int .i64 (fx fs (j + 1)).y)
                  replace P15 := P15.away2 (m := V1.heap.size) (i := 0) (j := 1) (u := .int .i64 (fx fs (j + 1)).x) (v := .int .i64 (fx fs (j + 1)).y) (by omega)
                  replace hE := hE'
                  clear hE'
                  generalize (V5.setCell ⟨V1.heap.size, 0, none⟩ (.int .i64 (fx fs (j + 1)).x)).setCell ⟨V1.heap.size, 1, none⟩ (.int .i64 (fx fs (j + 1)).y) = V6 at *
                  refine wpAnyH_done (by kernel_rfl) ?_ _
                  go_wp2_with fail
                  go_meet
                  exact ⟨⟨_, rfl, by omega, P15⟩, ⟨_, rfl, by omega, P16⟩, hE⟩
              · go_simp
                have hE' : Ext W4 (V2.alloc (.cells #[.int .i64 0, .int .i64 0] 37)) := hE.alloc _
                refine hK.out _ _ hE' (fun hHeld => ?_)
                clear hK K
                (try simp only [Act.put, List.setIfInBounds_toArray, List.set_cons_zero, List.set_cons_succ])
                replace P16 := P16.alloc (.cells #[.int .i64 0, .int .i64 0] 37)
                have P15 := Box.new2 (w := V2) (x := .int .i64 0) (y := .int .i64 0) (t := 37) rfl
                have zV2 := Ext.size hE
                have yV2 : V2.heap.size < (V2.alloc (.cells #[.int .i64 0, .int .i64 0] 37)).heap.size := by simp
                replace hE := hE'
                clear hE'
                generalize V2.alloc (.cells #[.int .i64 0, .int .i64 0] 37) = V3 at *
                refine wpAnyH_ready (rs := [14]) (by kernel_rfl) (by simp) ?_
                refine (AllReadyH.cons rfl (fun K hK => ?_) AllReadyH.nil)
                · go_simp
                  go_at_call 55
                  refine (PA2.out _).mono ?_
                  rintro e V4 ⟨rfl, hy⟩
                  go_wp2_with fail
                  have zy := Ext.size hy
                  have hE' := hE.trans hy
                  refine hK.out _ _ hE' (fun hHeld => ?_)
                  clear hK K
                  (try simp only [Act.put, List.setIfInBounds_toArray, List.set_cons_zero, List.set_cons_succ])
                  replace P16 := P16.ext hy
                  replace P15 := P15.ext hy
                  replace hE := hE'
                  clear hE' hy
                  obtain ⟨⟨r0, r1⟩, r2, r3⟩ := P15.two
                  refine wpAnyH_ready (rs := [17]) (by kernel_rfl) (by simp) ?_
                  refine AllReadyH.cons rfl (fun K hK => ?_) AllReadyH.nil
                  go_simp
                  have hE' : Ext W4 ((V4.setCell ⟨V2.heap.size, 0, none⟩ (.int .i64 (fx fs j).x)).setCell ⟨V2.heap.size, 1, none⟩ (.int .i64 (fx fs j).y)) := (hE.setNew (by simp; omega) _).setNew (by simp; omega) _
                  refine hK.out _ _ hE' (fun hHeld => ?_)
                  clear hK K r0 r1 r2 r3
                  (try simp only [Act.put, List.setIfInBounds_toArray, List.set_cons_zero, List.set_cons_succ])
                  replace P15 := P15.set2 (u := .int .i64 (fx fs j).x) (v := .int .i64 (fx fs j).y)
                  replace P16 := P16.away2 (m := V2.heap.size) (i := 0) (j := 1) (u := .int .i64 (fx fs j).x) (v := .int .i64 (fx fs j).y) (by omega)
                  replace hE := hE'
                  clear hE'
                  generalize (V4.setCell ⟨V2.heap.size, 0, none⟩ (.int .i64 (fx fs j).x)).setCell ⟨V2.heap.size, 1, none⟩ (.int .i64 (fx fs j).y) = V5 at *
                  obtain ⟨⟨r0, r1⟩, r2, r3⟩ := P16.two
                  refine wpAnyH_ready (rs := [18]) (by kernel_rfl) (by simp) ?_
                  refine AllReadyH.cons rfl (fun K hK => ?_) AllReadyH.nil
                  go_simp
                  have hE' : Ext W4 ((V5.setCell ⟨V1.heap.size, 0, none⟩ (.int .i64 (fx fs (j + 1)).x)).setCell ⟨V1.heap.size, 1, none⟩ (.int .i64 (fx fs (j + 1)).y)) := (hE.setNew (by simp; omega) _).setNew (by simp; omega) _
                  refine hK.out _ _ hE' (fun hHeld => ?_)
                  clear hK K r0 r1 r2 r3
                  (try simp only [Act.put, List.setIfInBounds_toArray, List.set_cons_zero, List.set_cons_succ])
                  replace P16 := P16.set2 (u := .int .i64 (fx fs (j + 1)).x) (v := .int .i64 (fx fs (j + 1)).y)
                  replace P15 := P15.away2 (m := V1.heap.size) (i := 0) (j := 1) (u := .int .i64 (fx fs (j + 1)).x) (v := .int .i64 (fx fs (j + 1)).y) (by omega)
                  replace hE := hE'
                  clear hE'
                  generalize (V5.setCell ⟨V1.heap.size, 0, none⟩ (.int .i64 (fx fs (j + 1)).x)).setCell ⟨V1.heap.size, 1, none⟩ (.int .i64 (fx fs (j + 1)).y) = V6 at *
                  refine wpAnyH_done (by kernel_rfl) ?_ _
                  go_wp2_with fail
                  go_meet
                  exact ⟨⟨_, rfl, by omega, P15⟩, ⟨_, rfl, by omega, P16⟩, hE⟩
          · go_simp
            have hE' : Ext W4 (V0.alloc (.cells #[.int .i64 0, .int .i64 0] 37)) := hE.alloc _
            refine hK.out _ _ hE' (fun hHeld => ?_)
            clear hK K
            (try simp only [Act.put, List.setIfInBounds_toArray, List.set_cons_zero, List.set_cons_succ])
            have P15 := Box.new2 (w := V0) (x := .int .i64 0) (y := .int .i64 0) (t := 37) rfl
            have zV0 := Ext.size hE
            have yV0 : V0.heap.size < (V0.alloc (.cells #[.int .i64 0, .int .i64 0] 37)).heap.size := by simp
            replace hE := hE'
            clear hE'
            generalize V0.alloc (.cells #[.int .i64 0, .int .i64 0] 37) = V1 at *
            refine wpAnyH_ready (rs := [6, 16]) (by kernel_rfl) (by simp) ?_
            refine (AllReadyH.cons rfl (fun K hK => ?_) (AllReadyH.cons rfl (fun K hK => ?_) AllReadyH.nil))
            · go_simp
              go_at_call 55
              refine (PA1.out _).mono ?_
              rintro e V2 ⟨rfl, hy⟩
              go_wp2_with fail
              have zy := Ext.size hy
              have hE' := hE.trans hy
              refine hK.out _ _ hE' (fun hHeld => ?_)
              clear hK K
              (try simp only [Act.put, List.setIfInBounds_toArray, List.set_cons_zero, List.set_cons_succ])
              replace P15 := P15.ext hy
              replace hE := hE'
              clear hE' hy
              refine wpAnyH_ready (rs := [14, 16]) (by kernel_rfl) (by simp) ?_
              refine (AllReadyH.cons rfl (fun K hK => ?_) (AllReadyH.cons rfl (fun K hK => ?_) AllReadyH.nil))
              · go_simp
                go_at_call 55
                refine (PA2.out _).mono ?_
                rintro e V3 ⟨rfl, hy⟩
                go_wp2_with fail
                have zy := Ext.size hy
                have hE' := hE.trans hy
                refine hK.out _ _ hE' (fun hHeld => ?_)
                clear hK K
                (try simp only [Act.put, List.setIfInBounds_toArray, List.set_cons_zero, List.set_cons_succ])
                replace P15 := P15.ext hy
                replace hE := hE'
                clear hE' hy
                refine wpAnyH_ready (rs := [16]) (by kernel_rfl) (by simp) ?_
                refine (AllReadyH.cons rfl (fun K hK => ?_) AllReadyH.nil)
                · go_simp
                  have hE' : Ext W4 (V3.alloc (.cells #[.int .i64 0, .int .i64 0] 37)) := hE.alloc _
                  refine hK.out _ _ hE' (fun hHeld => ?_)
                  clear hK K
                  (try simp only [Act.put, List.setIfInBounds_toArray, List.set_cons_zero, List.set_cons_succ])
                  replace P15 := P15.alloc (.cells #[.int .i64 0, .int .i64 0] 37)
                  have P16 := Box.new2 (w := V3) (x := .int .i64 0) (y := .int .i64 0) (t := 37) rfl
                  have zV3 := Ext.size hE
                  have yV3 : V3.heap.size < (V3.alloc (.cells #[.int .i64 0, .int .i64 0] 37)).heap.size := by simp
                  replace hE := hE'
                  clear hE'
                  generalize V3.alloc (.cells #[.int .i64 0, .int .i64 0] 37) = V4 at *
                  obtain ⟨⟨r0, r1⟩, r2, r3⟩ := P15.two
                  refine wpAnyH_ready (rs := [17]) (by kernel_rfl) (by simp) ?_
                  refine AllReadyH.cons rfl (fun K hK => ?_) AllReadyH.nil
                  go_simp
                  have hE' : Ext W4 ((V4.setCell ⟨V0.heap.size, 0, none⟩ (.int .i64 (fx fs j).x)).setCell ⟨V0.heap.size, 1, none⟩ (.int .i64 (fx fs j).y)) := (hE.setNew (by simp; omega) _).setNew (by simp; omega) _
                  refine hK.out _ _ hE' (fun hHeld => ?_)
                  clear hK K r0 r1 r2 r3
                  (try simp only [Act.put, List.setIfInBounds_toArray, List.set_cons_zero, List.set_cons_succ])
                  replace P15 := P15.set2 (u := .int .i64 (fx fs j).x) (v := .int .i64 (fx fs j).y)
                  replace P16 := P16.away2 (m := V0.heap.size) (i := 0) (j := 1) (u := .int .i64 (fx fs j).x) (v := .int .i64 (fx fs j).y) (by omega)
                  replace hE := hE'
                  clear hE'
                  generalize (V4.setCell ⟨V0.heap.size, 0, none⟩ (.int .i64 (fx fs j).x)).setCell ⟨V0.heap.size, 1, none⟩ (.int .i64 (fx fs j).y) = V5 at *
                  obtain ⟨⟨r0, r1⟩, r2, r3⟩ := P16.two
                  refine wpAnyH_ready (rs := [18]) (by kernel_rfl) (by simp) ?_
                  refine AllReadyH.cons rfl (fun K hK => ?_) AllReadyH.nil
                  go_simp
                  have hE' : Ext W4 ((V5.setCell ⟨V3.heap.size, 0, none⟩ (.int .i64 (fx fs (j + 1)).x)).setCell ⟨V3.heap.size, 1, none⟩ (.int .i64 (fx fs (j + 1)).y)) := (hE.setNew (by simp; omega) _).setNew (by simp; omega) _
                  refine hK.out _ _ hE' (fun hHeld => ?_)
                  clear hK K r0 r1 r2 r3
                  (try simp only [Act.put, List.setIfInBounds_toArray, List.set_cons_zero, List.set_cons_succ])
                  replace P16 := P16.set2 (u := .int .i64 (fx fs (j + 1)).x) (v := .int .i64 (fx fs (j + 1)).y)
                  replace P15 := P15.away2 (m := V3.heap.size) (i := 0) (j := 1) (u := .int .i64 (fx fs (j + 1)).x) (v := .int .i64 (fx fs (j + 1)).y) (by omega)
                  replace hE := hE'
                  clear hE'
                  generalize (V5.setCell ⟨V3.heap.size, 0, none⟩ (.int .i64 (fx fs (j + 1)).x)).setCell ⟨V3.heap.size, 1, none⟩ (.int .i64 (fx fs (j + 1)).y) = V6 at *
                  refine wpAnyH_done (by kernel_rfl) ?_ _
                  go_wp2_with fail
                  go_meet
                  exact ⟨⟨_, rfl, by omega, P15⟩, ⟨_, rfl, by omega, P16⟩, hE⟩
              · go_simp
                have hE' : Ext W4 (V2.alloc (.cells #[.int .i64 0, .int .i64 0] 37)) := hE.alloc _
                refine hK.out _ _ hE' (fun hHeld => ?_)
                clear hK K
                (try simp only [Act.put, List.setIfInBounds_toArray, List.set_cons_zero, List.set_cons_succ])
                replace P15 := P15.alloc (.cells #[.int .i64 0, .int .i64 0] 37)
                have P16 := Box.new2 (w := V2) (x := .int .i64 0) (y := .int .i64 0) (t := 37) rfl
                have zV2 := Ext.size hE
                have yV2 : V2.heap.size < (V2.alloc (.cells #[.int .i64 0, .int .i64 0] 37)).heap.size := by simp
                replace hE := hE'
                clear hE'
                generalize V2.alloc (.cells #[.int .i64 0, .int .i64 0] 37) = V3 at *
                refine wpAnyH_ready (rs := [14]) (by kernel_rfl) (by simp) ?_
                refine (AllReadyH.cons rfl (fun K hK => ?_) AllReadyH.nil)
                · go_simp
                  go_at_call 55
                  refine (PA2.out _).mono ?_
                  rintro e V4 ⟨rfl, hy⟩
                  go_wp2_with fail
                  have zy := Ext.size hy
                  have hE' := hE.trans hy
                  refine hK.out _ _ hE' (fun hHeld => ?_)
                  clear hK K
                  (try simp only [Act.put, List.setIfInBounds_toArray, List.set_cons_zero, List.set_cons_succ])
                  replace P15 := P15.ext hy
                  replace P16 := P16.ext hy
                  replace hE := hE'
                  clear hE' hy
                  obtain ⟨⟨r0, r1⟩, r2, r3⟩ := P15.two
                  refine wpAnyH_ready (rs := [17]) (by kernel_rfl) (by simp) ?_
                  refine AllReadyH.cons rfl (fun K hK => ?_) AllReadyH.nil
                  go_simp
                  have hE' : Ext W4 ((V4.setCell ⟨V0.heap.size, 0, none⟩ (.int .i64 (fx fs j).x)).setCell ⟨V0.heap.size, 1, none⟩ (.int .i64 (fx fs j).y)) := (hE.setNew (by simp; omega) _).setNew (by simp; omega) _
                  refine hK.out _ _ hE' (fun hHeld => ?_)
                  clear hK K r0 r1 r2 r3
                  (try simp only [Act.put, List.setIfInBounds_toArray, List.set_cons_zero, List.set_cons_succ])
                  replace P15 := P15.set2 (u := .int .i64 (fx fs j).x) (v := .int .i64 (fx fs j).y)
                  replace P16 := P16.away2 (m := V0.heap.size) (i := 0) (j := 1) (u := .int .i64 (fx fs j).x) (v := .int .i64 (fx fs j).y) (by omega)
                  replace hE := hE'
                  clear hE'
                  generalize (V4.setCell ⟨V0.heap.size, 0, none⟩ (.int .i64 (fx fs j).x)).setCell ⟨V0.heap.size, 1, none⟩ (.int .i64 (fx fs j).y) = V5 at *
                  obtain ⟨⟨r0, r1⟩, r2, r3⟩ := P16.two
                  refine wpAnyH_ready (rs := [18]) (by kernel_rfl) (by simp) ?_
                  refine AllReadyH.cons rfl (fun K hK => ?_) AllReadyH.nil
                  go_simp
                  have hE' : Ext W4 ((V5.setCell ⟨V2.heap.size, 0, none⟩ (.int .i64 (fx fs (j + 1)).x)).setCell ⟨V2.heap.size, 1, none⟩ (.int .i64 (fx fs (j + 1)).y)) := (hE.setNew (by simp; omega) _).setNew (by simp; omega) _
                  refine hK.out _ _ hE' (fun hHeld => ?_)
                  clear hK K r0 r1 r2 r3
                  (try simp only [Act.put, List.setIfInBounds_toArray, List.set_cons_zero, List.set_cons_succ])
                  replace P16 := P16.set2 (u := .int .i64 (fx fs (j + 1)).x) (v := .int .i64 (fx fs (j + 1)).y)
                  replace P15 := P15.away2 (m := V2.heap.size) (i := 0) (j := 1) (u := .int .i64 (fx fs (j + 1)).x) (v := .int .i64 (fx fs (j + 1)).y) (by omega)
                  replace hE := hE'
                  clear hE'
                  generalize (V5.setCell ⟨V2.heap.size, 0, none⟩ (.int .i64 (fx fs (j + 1)).x)).setCell ⟨V2.heap.size, 1, none⟩ (.int .i64 (fx fs (j + 1)).y) = V6 at *
                  refine wpAnyH_done (by kernel_rfl) ?_ _
                  go_wp2_with fail
                  go_meet
                  exact ⟨⟨_, rfl, by omega, P15⟩, ⟨_, rfl, by omega, P16⟩, hE⟩
            · go_simp
              have hE' : Ext W4 (V1.alloc (.cells #[.int .i64 0, .int .i64 0] 37)) := hE.alloc _
              refine hK.out _ _ hE' (fun hHeld => ?_)
              clear hK K
              (try simp only [Act.put, List.setIfInBounds_toArray, List.set_cons_zero, List.set_cons_succ])
              replace P15 := P15.alloc (.cells #[.int .i64 0, .int .i64 0] 37)
              have P16 := Box.new2 (w := V1) (x := .int .i64 0) (y := .int .i64 0) (t := 37) rfl
              have zV1 := Ext.size hE
              have yV1 : V1.heap.size < (V1.alloc (.cells #[.int .i64 0, .int .i64 0] 37)).heap.size := by simp
              replace hE := hE'
              clear hE'
              generalize V1.alloc (.cells #[.int .i64 0, .int .i64 0] 37) = V2 at *
              refine wpAnyH_ready (rs := [6]) (by kernel_rfl) (by simp) ?_
              refine (AllReadyH.cons rfl (fun K hK => ?_) AllReadyH.nil)
              · go_simp
                go_at_call 55
                refine (PA1.out _).mono ?_
                rintro e V3 ⟨rfl, hy⟩
                go_wp2_with fail
                have zy := Ext.size hy
                have hE' := hE.trans hy
                refine hK.out _ _ hE' (fun hHeld => ?_)
                clear hK K
                (try simp only [Act.put, List.setIfInBounds_toArray, List.set_cons_zero, List.set_cons_succ])
                replace P15 := P15.ext hy
                replace P16 := P16.ext hy
                replace hE := hE'
                clear hE' hy
                refine wpAnyH_ready (rs := [14]) (by kernel_rfl) (by simp) ?_
                refine (AllReadyH.cons rfl (fun K hK => ?_) AllReadyH.nil)
                · go_simp
                  go_at_call 55
                  refine (PA2.out _).mono ?_
                  rintro e V4 ⟨rfl, hy⟩
                  go_wp2_with fail
                  have zy := Ext.size hy
                  have hE' := hE.trans hy
                  refine hK.out _ _ hE' (fun hHeld => ?_)
                  clear hK K
                  (try simp only [Act.put, List.setIfInBounds_toArray, List.set_cons_zero, List.set_cons_succ])
                  replace P15 := P15.ext hy
                  replace P16 := P16.ext hy
                  replace hE := hE'
                  clear hE' hy
                  obtain ⟨⟨r0, r1⟩, r2, r3⟩ := P15.two
                  refine wpAnyH_ready (rs := [17]) (by kernel_rfl) (by simp) ?_
                  refine AllReadyH.cons rfl (fun K hK => ?_) AllReadyH.nil
                  go_simp
                  have hE' : Ext W4 ((V4.setCell ⟨V0.heap.size, 0, none⟩ (.int .i64 (fx fs j).x)).setCell ⟨V0.heap.size, 1, none⟩ (.int .i64 (fx fs j).y)) := (hE.setNew (by simp; omega) _).setNew (by simp; omega) _
                  refine hK.out _ _ hE' (fun hHeld => ?_)
                  clear hK K r0 r1 r2 r3
                  (try simp only [Act.put, List.setIfInBounds_toArray, List.set_cons_zero, List.set_cons_succ])
                  replace P15 := P15.set2 (u := .int .i64 (fx fs j).x) (v := .int .i64 (fx fs j).y)
                  replace P16 := P16.away2 (m := V0.heap.size) (i := 0) (j := 1) (u := .int .i64 (fx fs j).x) (v := .int .i64 (fx fs j).y) (by omega)
                  replace hE := hE'
                  clear hE'
                  generalize (V4.setCell ⟨V0.heap.size, 0, none⟩ (.int .i64 (fx fs j).x)).setCell ⟨V0.heap.size, 1, none⟩ (.int .i64 (fx fs j).y) = V5 at *
                  obtain ⟨⟨r0, r1⟩, r2, r3⟩ := P16.two
                  refine wpAnyH_ready (rs := [18]) (by kernel_rfl) (by simp) ?_
                  refine AllReadyH.cons rfl (fun K hK => ?_) AllReadyH.nil
                  go_simp
                  have hE' : Ext W4 ((V5.setCell ⟨V1.heap.size, 0, none⟩ (.int .i64 (fx fs (j + 1)).x)).setCell ⟨V1.heap.size, 1, none⟩ (.int .i64 (fx fs (j + 1)).y)) := (hE.setNew (by simp; omega) _).setNew (by simp; omega) _
                  refine hK.out _ _ hE' (fun hHeld => ?_)
                  clear hK K r0 r1 r2 r3
                  (try simp only [Act.put, List.setIfInBounds_toArray, List.set_cons_zero, List.set_cons_succ])
                  replace P16 := P16.set2 (u := .int .i64 (fx fs (j + 1)).x) (v := .int .i64 (fx fs (j + 1)).y)
                  replace P15 := P15.away2 (m := V1.heap.size) (i := 0) (j := 1) (u := .int .i64 (fx fs (j + 1)).x) (v := .int .i64 (fx fs (j + 1)).y) (by omega)
                  replace hE := hE'
                  clear hE'
                  generalize (V5.setCell ⟨V1.heap.size, 0, none⟩ (.int .i64 (fx fs (j + 1)).x)).setCell ⟨V1.heap.size, 1, none⟩ (.int .i64 (fx fs (j + 1)).y) = V6 at *
                  refine wpAnyH_done (by kernel_rfl) ?_ _
                  go_wp2_with fail
                  go_meet
                  exact ⟨⟨_, rfl, by omega, P15⟩, ⟨_, rfl, by omega, P16⟩, hE⟩
          · go_simp
            have hE' : Ext W4 (V0.alloc (.cells #[.int .i64 0, .int .i64 0] 37)) := hE.alloc _
            refine hK.out _ _ hE' (fun hHeld => ?_)
            clear hK K
            (try simp only [Act.put, List.setIfInBounds_toArray, List.set_cons_zero, List.set_cons_succ])
            have P16 := Box.new2 (w := V0) (x := .int .i64 0) (y := .int .i64 0) (t := 37) rfl
            have zV0 := Ext.size hE
            have yV0 : V0.heap.size < (V0.alloc (.cells #[.int .i64 0, .int .i64 0] 37)).heap.size := by simp
            replace hE := hE'
            clear hE'
            generalize V0.alloc (.cells #[.int .i64 0, .int .i64 0] 37) = V1 at *
            refine wpAnyH_ready (rs := [6, 15]) (by kernel_rfl) (by simp) ?_
            refine (AllReadyH.cons rfl (fun K hK => ?_) (AllReadyH.cons rfl (fun K hK => ?_) AllReadyH.nil))
            · go_simp
              go_at_call 55
              refine (PA1.out _).mono ?_
              rintro e V2 ⟨rfl, hy⟩
              go_wp2_with fail
              have zy := Ext.size hy
              have hE' := hE.trans hy
              refine hK.out _ _ hE' (fun hHeld => ?_)
              clear hK K
              (try simp only [Act.put, List.setIfInBounds_toArray, List.set_cons_zero, List.set_cons_succ])
              replace P16 := P16.ext hy
              replace hE := hE'
              clear hE' hy
              refine wpAnyH_ready (rs := [14, 15]) (by kernel_rfl) (by simp) ?_
              refine (AllReadyH.cons rfl (fun K hK => ?_) (AllReadyH.cons rfl (fun K hK => ?_) AllReadyH.nil))
              · go_simp
                go_at_call 55
                refine (PA2.out _).mono ?_
                rintro e V3 ⟨rfl, hy⟩
                go_wp2_with fail
                have zy := Ext.size hy
                have hE' := hE.trans hy
                refine hK.out _ _ hE' (fun hHeld => ?_)
                clear hK K
                (try simp only [Act.put, List.setIfInBounds_toArray, List.set_cons_zero, List.set_cons_succ])
                replace P16 := P16.ext hy
                replace hE := hE'
                clear hE' hy
                refine wpAnyH_ready (rs := [15]) (by kernel_rfl) (by simp) ?_
                refine (AllReadyH.cons rfl (fun K hK => ?_) AllReadyH.nil)
                · go_simp
                  have hE' : Ext W4 (V3.alloc (.cells #[.int .i64 0, .int .i64 0] 37)) := hE.alloc _
                  refine hK.out _ _ hE' (fun hHeld => ?_)
                  clear hK K
                  (try simp only [Act.put, List.setIfInBounds_toArray, List.set_cons_zero, List.set_cons_succ])
                  replace P16 := P16.alloc (.cells #[.int .i64 0, .int .i64 0] 37)
                  have P15 := Box.new2 (w := V3) (x := .int .i64 0) (y := .int .i64 0) (t := 37) rfl
                  have zV3 := Ext.size hE
                  have yV3 : V3.heap.size < (V3.alloc (.cells #[.int .i64 0, .int .i64 0] 37)).heap.size := by simp
                  replace hE := hE'
                  clear hE'
                  generalize V3.alloc (.cells #[.int .i64 0, .int .i64 0] 37) = V4 at *
                  obtain ⟨⟨r0, r1⟩, r2, r3⟩ := P15.two
                  refine wpAnyH_ready (rs := [17]) (by kernel_rfl) (by simp) ?_
                  refine AllReadyH.cons rfl (fun K hK => ?_) AllReadyH.nil
                  go_simp
                  have hE' : Ext W4 ((V4.setCell ⟨V3.heap.size, 0, none⟩ (.int .i64 (fx fs j).x)).setCell ⟨V3.heap.size, 1, none⟩ (.int .i64 (fx fs j).y)) := (hE.setNew (by simp; omega) _).setNew (by simp; omega) _
                  refine hK.out _ _ hE' (fun hHeld => ?_)
                  clear hK K r0 r1 r2 r3
                  (try simp only [Act.put, List.setIfInBounds_toArray, List.set_cons_zero, List.set_cons_succ])
                  replace P15 := P15.set2 (u := .int .i64 (fx fs j).x) (v := .int .i64 (fx fs j).y)
                  replace P16 := P16.away2 (m := V3.heap.size) (i := 0) (j := 1) (u := .int .i64 (fx fs j).x) (v := .int .i64 (fx fs j).y) (by omega)
                  replace hE := hE'
                  clear hE'
                  generalize (V4.setCell ⟨V3.heap.size, 0, none⟩ (.int .i64 (fx fs j).x)).setCell ⟨V3.heap.size, 1, none⟩ (.int .i64 (fx fs j).y) = V5 at *
                  obtain ⟨⟨r0, r1⟩, r2, r3⟩ := P16.two
                  refine wpAnyH_ready (rs := [18]) (by kernel_rfl) (by simp) ?_
                  refine AllReadyH.cons rfl (fun K hK => ?_) AllReadyH.nil
                  go_simp
                  have hE' : Ext W4 ((V5.setCell ⟨V0.heap.size, 0, none⟩ (.int .i64 (fx fs (j + 1)).x)).setCell ⟨V0.heap.size, 1, none⟩ (.int .i64 (fx fs (j + 1)).y)) := (hE.setNew (by simp; omega) _).setNew (by simp; omega) _
                  refine hK.out _ _ hE' (fun hHeld => ?_)
                  clear hK K r0 r1 r2 r3
                  (try simp only [Act.put, List.setIfInBounds_toArray, List.set_cons_zero, List.set_cons_succ])
                  replace P16 := P16.set2 (u := .int .i64 (fx fs (j + 1)).x) (v := .int .i64 (fx fs (j + 1)).y)
                  replace P15 := P15.away2 (m := V0.heap.size) (i := 0) (j := 1) (u := .int .i64 (fx fs (j + 1)).x) (v := .int .i64 (fx fs (j + 1)).y) (by omega)
                  replace hE := hE'
                  clear hE'
                  generalize (V5.setCell ⟨V0.heap.size, 0, none⟩ (.int .i64 (fx fs (j + 1)).x)).setCell ⟨V0.heap.size, 1, none⟩ (.int .i64 (fx fs (j + 1)).y) = V6 at *
                  refine wpAnyH_done (by kernel_rfl) ?_ _
                  go_wp2_with fail
                  go_meet
                  exact ⟨⟨_, rfl, by omega, P15⟩, ⟨_, rfl, by omega, P16⟩, hE⟩
              · go_simp
                have hE' : Ext W4 (V2.alloc (.cells #[.int .i64 0, .int .i64 0] 37)) := hE.alloc _
                refine hK.out _ _ hE' (fun hHeld => ?_)
                clear hK K
                (try simp only [Act.put, List.setIfInBounds_toArray, List.set_cons_zero, List.set_cons_succ])
                replace P16 := P16.alloc (.cells #[.int .i64 0, .int .i64 0] 37)
                have P15 := Box.new2 (w := V2) (x := .int .i64 0) (y := .int .i64 0) (t := 37) rfl
                have zV2 := Ext.size hE
                have yV2 : V2.heap.size < (V2.alloc (.cells #[.int .i64 0, .int .i64 0] 37)).heap.size := by simp
                replace hE := hE'
                clear hE'
                generalize V2.alloc (.cells #[.int .i64 0, .int .i64 0] 37) = V3 at *
                refine wpAnyH_ready (rs := [14]) (by kernel_rfl) (by simp) ?_
                refine (AllReadyH.cons rfl (fun K hK => ?_) AllReadyH.nil)
                · go_simp
                  go_at_call 55
                  refine (PA2.out _).mono ?_
                  rintro e V4 ⟨rfl, hy⟩
                  go_wp2_with fail
                  have zy := Ext.size hy
                  have hE' := hE.trans hy
                  refine hK.out _ _ hE' (fun hHeld => ?_)
                  clear hK K
                  (try simp only [Act.put, List.setIfInBounds_toArray, List.set_cons_zero, List.set_cons_succ])
                  replace P16 := P16.ext hy
                  replace P15 := P15.ext hy
                  replace hE := hE'
                  clear hE' hy
                  obtain ⟨⟨r0, r1⟩, r2, r3⟩ := P15.two
                  refine wpAnyH_ready (rs := [17]) (by kernel_rfl) (by simp) ?_
                  refine AllReadyH.cons rfl (fun K hK => ?_) AllReadyH.nil
                  go_simp
                  have hE' : Ext W4 ((V4.setCell ⟨V2.heap.size, 0, none⟩ (.int .i64 (fx fs j).x)).setCell ⟨V2.heap.size, 1, none⟩ (.int .i64 (fx fs j).y)) := (hE.setNew (by simp; omega) _).setNew (by simp; omega) _
                  refine hK.out _ _ hE' (fun hHeld => ?_)
                  clear hK K r0 r1 r2 r3
                  (try simp only [Act.put, List.setIfInBounds_toArray, List.set_cons_zero, List.set_cons_succ])
                  replace P15 := P15.set2 (u := .int .i64 (fx fs j).x) (v := .int .i64 (fx fs j).y)
                  replace P16 := P16.away2 (m := V2.heap.size) (i := 0) (j := 1) (u := .int .i64 (fx fs j).x) (v := .int .i64 (fx fs j).y) (by omega)
                  replace hE := hE'
                  clear hE'
                  generalize (V4.setCell ⟨V2.heap.size, 0, none⟩ (.int .i64 (fx fs j).x)).setCell ⟨V2.heap.size, 1, none⟩ (.int .i64 (fx fs j).y) = V5 at *
                  obtain ⟨⟨r0, r1⟩, r2, r3⟩ := P16.two
                  refine wpAnyH_ready (rs := [18]) (by kernel_rfl) (by simp) ?_
                  refine AllReadyH.cons rfl (fun K hK => ?_) AllReadyH.nil
                  go_simp
                  have hE' : Ext W4 ((V5.setCell ⟨V0.heap.size, 0, none⟩ (.int .i64 (fx fs (j + 1)).x)).setCell ⟨V0.heap.size, 1, none⟩ (.int .i64 (fx fs (j + 1)).y)) := (hE.setNew (by simp; omega) _).setNew (by simp; omega) _
                  refine hK.out _ _ hE' (fun hHeld => ?_)
                  clear hK K r0 r1 r2 r3
                  (try simp only [Act.put, List.setIfInBounds_toArray, List.set_cons_zero, List.set_cons_succ])
                  replace P16 := P16.set2 (u := .int .i64 (fx fs (j + 1)).x) (v := .int .i64 (fx fs (j + 1)).y)
                  replace P15 := P15.away2 (m := V0.heap.size) (i := 0) (j := 1) (u := .int .i64 (fx fs (j + 1)).x) (v := .int .i64 (fx fs (j + 1)).y) (by omega)
                  replace hE := hE'
                  clear hE'
                  generalize (V5.setCell ⟨V0.heap.size, 0, none⟩ (.int .i64 (fx fs (j + 1)).x)).setCell ⟨V0.heap.size, 1, none⟩ (.int .i64 (fx fs (j + 1)).y) = V6 at *
                  refine wpAnyH_done (by kernel_rfl) ?_ _
                  go_wp2_with fail
                  go_meet
                  exact ⟨⟨_, rfl, by omega, P15⟩, ⟨_, rfl, by omega, P16⟩, hE⟩
            · go_simp
              have hE' : Ext W4 (V1.alloc (.cells #[.int .i64 0, .int .i64 0] 37)) := hE.alloc _
              refine hK.out _ _ hE' (fun hHeld => ?_)
              clear hK K
              (try simp only [Act.put, List.setIfInBounds_toArray, List.set_cons_zero, List.set_cons_succ])
              replace P16 := P16.alloc (.cells #[.int .i64 0, .int .i64 0] 37)
              have P15 := Box.new2 (w := V1) (x := .int .i64 0) (y := .int .i64 0) (t := 37) rfl
              have zV1 := Ext.size hE
              have yV1 : V1.heap.size < (V1.alloc (.cells #[.int .i64 0, .int .i64 0] 37)).heap.size := by simp
              replace hE := hE'
              clear hE'
              generalize V1.alloc (.cells #[.int .i64 0, .int .i64 0] 37) = V2 at *
              refine wpAnyH_ready (rs := [6]) (by kernel_rfl) (by simp) ?_
              refine (AllReadyH.cons rfl (fun K hK => ?_) AllReadyH.nil)
              · go_simp
                go_at_call 55
                refine (PA1.out _).mono ?_
                rintro e V3 ⟨rfl, hy⟩
                go_wp2_with fail
                have zy := Ext.size hy
                have hE' := hE.trans hy
                refine hK.out _ _ hE' (fun hHeld => ?_)
                clear hK K
                (try simp only [Act.put, List.setIfInBounds_toArray, List.set_cons_zero, List.set_cons_succ])
                replace P16 := P16.ext hy
                replace P15 := P15.ext hy
                replace hE := hE'
                clear hE' hy
                refine wpAnyH_ready (rs := [14]) (by kernel_rfl) (by simp) ?_
                refine (AllReadyH.cons rfl (fun K hK => ?_) AllReadyH.nil)
                · go_simp
                  go_at_call 55
                  refine (PA2.out _).mono ?_
                  rintro e V4 ⟨rfl, hy⟩
                  go_wp2_with fail
                  have zy := Ext.size hy
                  have hE' := hE.trans hy
                  refine hK.out _ _ hE' (fun hHeld => ?_)
                  clear hK K
                  (try simp only [Act.put, List.setIfInBounds_toArray, List.set_cons_zero, List.set_cons_succ])
                  replace P16 := P16.ext hy
                  replace P15 := P15.ext hy
                  replace hE := hE'
                  clear hE' hy
                  obtain ⟨⟨r0, r1⟩, r2, r3⟩ := P15.two
                  refine wpAnyH_ready (rs := [17]) (by kernel_rfl) (by simp) ?_
                  refine AllReadyH.cons rfl (fun K hK => ?_) AllReadyH.nil
                  go_simp
                  have hE' : Ext W4 ((V4.setCell ⟨V1.heap.size, 0, none⟩ (.int .i64 (fx fs j).x)).setCell ⟨V1.heap.size, 1, none⟩ (.int .i64 (fx fs j).y)) := (hE.setNew (by simp; omega) _).setNew (by simp; omega) _
                  refine hK.out _ _ hE' (fun hHeld => ?_)
                  clear hK K r0 r1 r2 r3
                  (try simp only [Act.put, List.setIfInBounds_toArray, List.set_cons_zero, List.set_cons_succ])
                  replace P15 := P15.set2 (u := .int .i64 (fx fs j).x) (v := .int .i64 (fx fs j).y)
                  replace P16 := P16.away2 (m := V1.heap.size) (i := 0) (j := 1) (u := .int .i64 (fx fs j).x) (v := .int .i64 (fx fs j).y) (by omega)
                  replace hE := hE'
                  clear hE'
                  generalize (V4.setCell ⟨V1.heap.size, 0, none⟩ (.int .i64 (fx fs j).x)).setCell ⟨V1.heap.size, 1, none⟩ (.int .i64 (fx fs j).y) = V5 at *
                  obtain ⟨⟨r0, r1⟩, r2, r3⟩ := P16.two
                  refine wpAnyH_ready (rs := [18]) (by kernel_rfl) (by simp) ?_
                  refine AllReadyH.cons rfl (fun K hK => ?_) AllReadyH.nil
                  go_simp
                  have hE' : Ext W4 ((V5.setCell ⟨V0.heap.size, 0, none⟩ (.int .i64 (fx fs (j + 1)).x)).setCell ⟨V0.heap.size, 1, none⟩ (.int .i64 (fx fs (j + 1)).y)) := (hE.setNew (by simp; omega) _).setNew (by simp; omega) _
                  refine hK.out _ _ hE' (fun hHeld => ?_)
                  clear hK K r0 r1 r2 r3
                  (try simp only [Act.put, List.setIfInBounds_toArray, List.set_cons_zero, List.set_cons_succ])
                  replace P16 := P16.set2 (u := .int .i64 (fx fs (j + 1)).x) (v := .int .i64 (fx fs (j + 1)).y)
                  replace P15 := P15.away2 (m := V0.heap.size) (i := 0) (j := 1) (u := .int .i64 (fx fs (j + 1)).x) (v := .int .i64 (fx fs (j + 1)).y) (by omega)
                  replace hE := hE'
                  clear hE'
                  generalize (V5.setCell ⟨V0.heap.size, 0, none⟩ (.int .i64 (fx fs (j + 1)).x)).setCell ⟨V0.heap.size, 1, none⟩ (.int .i64 (fx fs (j + 1)).y) = V6 at *
                  refine wpAnyH_done (by kernel_rfl) ?_ _
                  go_wp2_with fail
                  go_meet
                  exact ⟨⟨_, rfl, by omega, P15⟩, ⟨_, rfl, by omega, P16⟩, hE⟩
        case rest =>
          obtain ⟨⟨B6, rfl, n6, H6⟩, ⟨B7, rfl, n7, H7⟩, hx⟩ := hcut
          obtain ⟨⟨h0, h1⟩, _, _⟩ := H6.two
          obtain ⟨⟨h2, h3⟩, _, _⟩ := H7.two
          replace q3 := hx.cellOf q3
          replace q4 := hx.cellOf q4
          have X5 := Lib.hid (X4.out.trans hx)
          have S0 : ResC wc (w.heap.size + 1 + 1) 2 wc := ResC.of2 (RB4.out.ext hx)
          have a0 : ∀ w', ResC wc (w.heap.size + 1 + 1) 2 w' → w'.cell? ⟨B6, 0, none⟩ = some (.int .i64 (fx fs j).x) := fun w' h => h.cell n6 h0
          have a1 : ∀ w', ResC wc (w.heap.size + 1 + 1) 2 w' → w'.cell? ⟨B6, 1, none⟩ = some (.int .i64 (fx fs j).y) := fun w' h => h.cell n6 h1
          have a2 : ∀ w', ResC wc (w.heap.size + 1 + 1) 2 w' → w'.cell? ⟨B7, 0, none⟩ = some (.int .i64 (fx fs (j + 1)).x) := fun w' h => h.cell n7 h2
          have a3 : ∀ w', ResC wc (w.heap.size + 1 + 1) 2 w' → w'.cell? ⟨B7, 1, none⟩ = some (.int .i64 (fx fs (j + 1)).y) := fun w' h => h.cell n7 h3
          have a4 : ∀ w', ResC wc (w.heap.size + 1 + 1) 2 w' → w'.cell? ⟨w3.heap.size, 3, none⟩ = some (.int .i64 (lxN fs a b c d j)) := fun w' h => h.cell n4 q3
          have a5 : ∀ w', ResC wc (w.heap.size + 1 + 1) 2 w' → w'.cell? ⟨w3.heap.size, 4, none⟩ = some (.int .i64 (lxD fs a b c d j)) := fun w' h => h.cell n4 q4
          clear et e1 g0 g1 g2 g3 g4 g5 q1 q3 q4 h0 h1 h2 h3 H6 H7 hx hx4
          go_wp2_with fail
          refine wp_region_held_drew (S := (ResC wc (w.heap.size + 1 + 1) 2)) (by kernel_rfl) (by (try dsimp only); first | go_keep | exact (Ext.refl _).drew | exact Res.new2.drew | exact Res.new4.drew | exact ResB.drew (by assumption) | exact ResC.drew (by assumption) | assumption | exact Ext.drew (by assumption) | exact Res.drew (by assumption)) (fun hHeld => ?_)
          (refine Ord.takeH 0 50 (v := ?_) rfl rfl (by kernel_rfl) (by kernel_rfl) (by kernel_rfl) (fun _ _ _ h => h) (by rfl) ?_ (by assumption) ?_; rotate_left; (intro w hSw; (try dsimp only at hSw); go_simp; (first | done | with_reducible rfl)); (try simp only [Act.put, List.setIfInBounds_toArray, List.set_cons_zero, List.set_cons_succ]))
          (refine Ord.takeH 1 51 (v := ?_) rfl rfl (by kernel_rfl) (by kernel_rfl) (by kernel_rfl) (fun _ _ _ h => h) (by rfl) ?_ (by assumption) ?_; rotate_left; (intro w hSw; (try dsimp only at hSw); go_simp; (first | done | with_reducible rfl)); (try simp only [Act.put, List.setIfInBounds_toArray, List.set_cons_zero, List.set_cons_succ]))
          (refine Ord.takeH 2 52 (v := ?_) rfl rfl (by kernel_rfl) (by kernel_rfl) (by kernel_rfl) (fun _ _ _ h => h) (by rfl) ?_ (by assumption) ?_; rotate_left; (intro w hSw; (try dsimp only at hSw); go_simp; (first | done | with_reducible rfl)); (try simp only [Act.put, List.setIfInBounds_toArray, List.set_cons_zero, List.set_cons_succ]))
          (refine Ord.takeH 3 53 (v := ?_) rfl rfl (by kernel_rfl) (by kernel_rfl) (by kernel_rfl) (fun _ _ _ h => h) (by rfl) ?_ (by assumption) ?_; rotate_left; (intro w hSw; (try dsimp only at hSw); go_simp; (first | done | with_reducible rfl)); (try simp only [Act.put, List.setIfInBounds_toArray, List.set_cons_zero, List.set_cons_succ]))
          (refine Ord.takeH 4 54 (v := ?_) rfl rfl (by kernel_rfl) (by kernel_rfl) (by kernel_rfl) (fun _ _ _ h => h) (by rfl) ?_ (by assumption) ?_; rotate_left; (intro w hSw; (try dsimp only at hSw); go_simp; (first | done | with_reducible rfl)); (try simp only [Act.put, List.setIfInBounds_toArray, List.set_cons_zero, List.set_cons_succ]))
          (refine Ord.takeH 5 55 (v := ?_) rfl rfl (by kernel_rfl) (by kernel_rfl) (by kernel_rfl) (fun _ _ _ h => h) (by rfl) ?_ (by assumption) ?_; rotate_left; (intro w hSw; (try dsimp only at hSw); go_simp; (first | done | with_reducible rfl)); (try simp only [Act.put, List.setIfInBounds_toArray, List.set_cons_zero, List.set_cons_succ]))
          (refine Ord.takeH 7 57 (v := ?_) rfl rfl (by kernel_rfl) (by kernel_rfl) (by kernel_rfl) (fun _ _ _ h => h) (by rfl) ?_ (by assumption) ?_; rotate_left; (intro w hSw; (try dsimp only at hSw); go_simp; (first | done | with_reducible rfl)); (try simp only [Act.put, List.setIfInBounds_toArray, List.set_cons_zero, List.set_cons_succ]))
          (refine Ord.takeH 8 58 (v := ?_) rfl rfl (by kernel_rfl) (by kernel_rfl) (by kernel_rfl) (fun _ _ _ h => h) (by rfl) ?_ (by assumption) ?_; rotate_left; (intro w hSw; (try dsimp only at hSw); go_simp; (first | done | with_reducible rfl)); (try simp only [Act.put, List.setIfInBounds_toArray, List.set_cons_zero, List.set_cons_succ]))
          (refine Ord.takeH 9 59 (v := ?_) rfl rfl (by kernel_rfl) (by kernel_rfl) (by kernel_rfl) (fun _ _ _ h => h) (by rfl) ?_ (by assumption) ?_; rotate_left; (intro w hSw; (try dsimp only at hSw); go_simp; (first | done | with_reducible rfl)); (try simp only [Act.put, List.setIfInBounds_toArray, List.set_cons_zero, List.set_cons_succ]))
          (refine Ord.takeH 10 60 (v := ?_) rfl rfl (by kernel_rfl) (by kernel_rfl) (by kernel_rfl) (fun _ _ _ h => h) (by rfl) ?_ (by assumption) ?_; rotate_left; (intro w hSw; (try dsimp only at hSw); go_simp; (first | done | with_reducible rfl)); (try simp only [Act.put, List.setIfInBounds_toArray, List.set_cons_zero, List.set_cons_succ]))
          (refine Ord.takeH 11 61 (v := ?_) rfl rfl (by kernel_rfl) (by kernel_rfl) (by kernel_rfl) (fun _ _ _ h => h) (by rfl) ?_ (by assumption) ?_; rotate_left; (intro w hSw; (try dsimp only at hSw); go_simp; (first | done | with_reducible rfl)); (try simp only [Act.put, List.setIfInBounds_toArray, List.set_cons_zero, List.set_cons_succ]))
          (refine Ord.takeH 12 62 (v := ?_) rfl rfl (by kernel_rfl) (by kernel_rfl) (by kernel_rfl) (fun _ _ _ h => h) (by rfl) ?_ (by assumption) ?_; rotate_left; (intro w hSw; (try dsimp only at hSw); go_simp; (first | done | with_reducible rfl)); (try simp only [Act.put, List.setIfInBounds_toArray, List.set_cons_zero, List.set_cons_succ]))
          (refine wpAnyH_ready (rs := [6]) (by kernel_rfl) (by simp) ?_; refine AllReadyH.cons rfl (fun K hK => ?_) AllReadyH.nil; go_simp; (first | (go_at_call 56; with_reducible refine (PX.out _).mono ?_; rintro e w6 ⟨rfl, hy⟩) | (go_at_call 56; with_reducible refine (PY.out _).mono ?_; rintro e w6 ⟨rfl, hy⟩)); go_wp2_with fail; (refine hK.out _ _ (by first | assumption | exact Ext.trans (by assumption) hy | exact Res.ext (by assumption) hy | exact ResB.ext (by assumption) hy | exact ResC.ext (by assumption) hy | (go_split_ands; (repeat' apply And.intro) <;> exact Ext.cellOf hy (by assumption))) (fun hHeld => ?_)); clear hK K; (try simp only [Act.put, List.setIfInBounds_toArray, List.set_cons_zero, List.set_cons_succ]))
          (refine wpAnyH_ready (rs := [13]) (by kernel_rfl) (by simp) ?_; refine AllReadyH.cons rfl (fun K hK => ?_) AllReadyH.nil; go_simp; (first | (go_at_call 56; with_reducible refine (PX.out _).mono ?_; rintro e w6 ⟨rfl, hy⟩) | (go_at_call 56; with_reducible refine (PY.out _).mono ?_; rintro e w6 ⟨rfl, hy⟩)); go_wp2_with fail; (refine hK.out _ _ (by first | assumption | exact Ext.trans (by assumption) hy | exact Res.ext (by assumption) hy | exact ResB.ext (by assumption) hy | exact ResC.ext (by assumption) hy | (go_split_ands; (repeat' apply And.intro) <;> exact Ext.cellOf hy (by assumption))) (fun hHeld => ?_)); clear hK K; (try simp only [Act.put, List.setIfInBounds_toArray, List.set_cons_zero, List.set_cons_succ]))
          (refine Ord.takeH 14 64 (v := ?_) rfl rfl (by kernel_rfl) (by kernel_rfl) (by kernel_rfl) (fun _ _ _ h => h) (by rfl) ?_ (by assumption) ?_; rotate_left; (intro w hSw; (try dsimp only at hSw); go_simp; (first | done | with_reducible rfl)); (try simp only [Act.put, List.setIfInBounds_toArray, List.set_cons_zero, List.set_cons_succ]))
          ((first | ((first | refine Exists.elim (Res.two hHeld) (fun rx rh => ?_) | refine Exists.elim (ResC.two hHeld) (fun rx rh => ?_) | refine Exists.elim (Res.two hHeld.1) (fun rx rh => ?_)); refine Exists.elim rh (fun ry rb => ?_); have r0 := rb.two.1.1; have r1 := rb.two.1.2; have r2 := rb.two.2.1; have r3 := rb.two.2.2; clear rh) | ((first | refine Exists.elim (Res.four hHeld) (fun rx rh => ?_) | refine Exists.elim (Res.four hHeld.1) (fun rx rh => ?_)); refine Exists.elim rh (fun ry rh => ?_); refine Exists.elim rh (fun rz rh => ?_); refine Exists.elim rh (fun ru rb => ?_); have r0 := rb.four.1.1; have r1 := rb.four.1.2.1; have r2 := rb.four.1.2.2.1; have r3 := rb.four.1.2.2.2; have r4 := rb.four.2.1; have r5 := rb.four.2.2.1; have r6 := rb.four.2.2.2.1; have r7 := rb.four.2.2.2.2; clear rh) | (refine Exists.elim (Res.three hHeld) (fun rx rh => ?_); refine Exists.elim rh (fun ry rh => ?_); refine Exists.elim rh (fun rz rb => ?_); have r0 := rb.three'.1.1; have r1 := rb.three'.1.2.1; have r2 := rb.three'.1.2.2; have r3 := rb.three'.2.1; have r4 := rb.three'.2.2.1; have r5 := rb.three'.2.2.2; clear rh; (try simp only [World.cell?_drew, World.frozen?_drew] at r0 r1 r2 r3 r4 r5)) | (refine Exists.elim (Res.five hHeld) (fun rx rh => ?_); refine Exists.elim rh (fun ry rh => ?_); refine Exists.elim rh (fun rz rh => ?_); refine Exists.elim rh (fun ru rh => ?_); refine Exists.elim rh (fun rt rb => ?_); have r0 := rb.five.1.1; have r1 := rb.five.1.2.1; have r2 := rb.five.1.2.2.1; have r3 := rb.five.1.2.2.2.1; have r4 := rb.five.1.2.2.2.2; have r5 := rb.five.2.1; have r6 := rb.five.2.2.1; have r7 := rb.five.2.2.2.1; have r8 := rb.five.2.2.2.2.1; have r9 := rb.five.2.2.2.2.2; clear rh; (try simp only [World.cell?_drew, World.frozen?_drew] at r0 r1 r2 r3 r4 r5 r6 r7 r8 r9)) | (refine Exists.elim (SD.one hHeld) (fun rx rh => ?_); have r0 := rh.1; have r1 := rh.2; clear rh)); refine wpAnyH_ready (rs := [15]) (by kernel_rfl) (by simp) ?_; refine AllReadyH.cons rfl (fun K hK => ?_) AllReadyH.nil; go_simp; (refine hK.out _ _ (by first | with_reducible exact SD.set hHeld _ | with_reducible exact Res.set (Res.set hHeld _ _) _ _ | with_reducible exact ResB.set (ResB.set hHeld _ _) _ _ | with_reducible exact ResC.set (ResC.set hHeld _ _) _ _ | with_reducible exact Res.set (Res.set (Res.set (Res.set hHeld _ _) _ _) _ _) _ _ | with_reducible exact Res.set (Res.set (Res.set hHeld _ _) _ _) _ _ | with_reducible exact Res.set (Res.set (Res.set (Res.set (Res.set hHeld _ _) _ _) _ _) _ _) _ _) (fun hHeld => ?_)); clear hK K; (try simp only [Act.put, List.setIfInBounds_toArray, List.set_cons_zero, List.set_cons_succ]))
          (refine Ord.takeH 16 7 (v := ?_) rfl rfl (by kernel_rfl) (by kernel_rfl) (by kernel_rfl) (fun _ _ _ h => h) (by rfl) ?_ (by assumption) ?_; rotate_left; (intro w hSw; (try dsimp only at hSw); go_simp; (first | done | with_reducible rfl)); (try simp only [Act.put, List.setIfInBounds_toArray, List.set_cons_zero, List.set_cons_succ]))
          refine wpAnyH_done (by kernel_rfl) ?_ _
          go_wp2
          exact cps_done rb.set2 (hHeld.to X5.out (by omega)) rfl rfl HE.out.1 HE.out.2.1 HE.out.2.2
      · have HE := Lib.hid (HO.out (by unfold cqIn; rw [HA.out]; exact hk))
        have IB := Lib.hid (inB_no (n := k) (lo := 0) (hi := (cs.length : Int) - 1) (by omega))
        obtain ⟨⟨r0, r1⟩, s0, s1⟩ := RB3.out.two
        go_wp2_with fail
        refine (in_any _ _ _ _).mono ?_
        rw [IB.out]
        rintro e w5 ⟨rfl, rfl⟩
        go_wp2
        exact cps_done RB3.out.set2 ((XY.out.setNew (by simp; omega) _).setNew (by simp; omega) _) rfl rfl HE.out.1 HE.out.2.1 HE.out.2.2

end Go.Proofs.Ytaliopnhdcdajaa.Rwk
