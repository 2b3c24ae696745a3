import Derived.Test.YtmlojndkpnhalaaGreatRwk
import Derived.Test.YtmlojndkpnhalaaGreatItr
import Derived.Deep.DeepCutAuto
namespace Go.Proofs.YtmlojndkpnhalaaGreat.Rwk
open Go.ChangeShapes Go.WideShapes Go.ChangeAt Go.RowKit
open Go.Proofs.YtmlojndkpnhalaaGreat.Num Go.Proofs.YtmlojndkpnhalaaGreat.Kit Go.Proofs.YtmlojndkpnhalaaGreat.Pts Go.Proofs.YtmlojndkpnhalaaGreat.Seg Go.Proofs.YtmlojndkpnhalaaGreat.Trk Go.Proofs.YtmlojndkpnhalaaGreat.Gcd Go.Proofs.YtmlojndkpnhalaaGreat.Crs
set_option linter.unusedVariables false
set_option linter.unusedSimpArgs false
def RelCR (W0 : World) (base : Nat) (fs : List F3) (a b c d : Int) (o i : Value) (wr : World) : Prop :=
  ∃ k : Nat, i = .int .i64 k ∧ k ≤ fs.length - 1 ∧ OwnC wr base o (crL fs a b c d k) ∧ Ext W0 wr
set_option maxRecDepth 100000 in
set_option maxHeartbeats 4000000 in
theorem crossings_spec (a0 : Option Addr) (cap : Nat) (fs : List F3) (a b c d : Int) (w : World) (hf : Fxs w a0 fs) (hv : trB fs = true) (hs : sgB a b c d = true) :
    Calls Tryz.prog 188 #[Tr (.slice a0 fs.length cap), Sg a b c d] w fun e w' => ∃ v, e = .returned v ∧ OwnC w' w.heap.size v (crL fs a b c d (fs.length - 1)) ∧ Ext w w' := by
  obtain ⟨⟨h2, h40⟩, _⟩ := trB_yes hv
  obtain ⟨⟨ga, gb, gc, gd⟩, _⟩ := sgB_yes hs
  rcases hf.2 with h | ⟨bb, off, rfl, hb⟩
  · rw [h] at h2; simp at h2
  obtain ⟨W0, hW0⟩ : ∃ W0, W0 = (w.alloc (.cells #[.slice (some ⟨bb, off, none⟩) fs.length cap] 33)).alloc (.cells #[.int .i64 a, .int .i64 b, .int .i64 c, .int .i64 d] 27) := ⟨_, rfl⟩
  have HW := Lib.hid (show Ext w W0 from hW0 ▸ ((Ext.refl w).alloc _).alloc _)
  have hs0 : W0.heap.size = w.heap.size + 1 + 1 := by rw [hW0]; simp
  have et : W0.cell? ⟨w.heap.size, 0, none⟩ = some (.slice (some ⟨bb, off, none⟩) fs.length cap) := by rw [hW0]; exact ((Ext.refl _).alloc _).cellOf (boxed 0 rfl rfl)
  have el : ∀ i v, (#[.int .i64 a, .int .i64 b, .int .i64 c, .int .i64 d] : Array Value)[i]? = some v → W0.cell? ⟨w.heap.size + 1, i, none⟩ = some v := fun i v hv => by rw [hW0]; exact boxed i hv (by simp)
  have O0 : OwnC (W0.alloc (.cells #[] 188)) W0.heap.size (.slice (some ⟨W0.heap.size, 0, none⟩) 0 0) [] := World.ownsRow_lit (base := W0.heap.size) (e := 188) (size := 5) W0 #[] 0 (Nat.le_refl _) (by unfold maxLen; omega) rfl
  have X1 := Lib.hid ((Ext.refl W0).alloc (.cells #[] 188))
  obtain ⟨W1, hW1⟩ : ∃ W1, W1 = W0.alloc (.cells #[] 188) := ⟨_, rfl⟩
  rw [← hW1] at O0 X1
  have HF := Lib.hid (fun w' (h : Ext w w') => hf.ext h)
  have HB := Lib.hid (fun w' (h : Ext W0 w') i (hi : i < fs.length) => (hb i hi).ext (HW.out.trans h))
  have ET := Lib.hid (fun w' (h : Ext W0 w') => h.cellOf et)
  have EL := Lib.hid (fun w' (h : Ext W0 w') i v hv => h.cellOf (el i v hv))
  have HO0 := Lib.hid O0
  clear hf hb et el O0
  obtain ⟨ti, hin, hz0, hz1, hz2⟩ := info_parts crossInfo
  go_enter Tryz.func188, Tryz.ntmps188
  go_wp2
  rw [← hW0]
  go_loopw [5, 6] (fun o i wr => RelCR W0 W0.heap.size fs a b c d o i wr) (fun o i _ => fs.length - (intOf i).toNat)
  case atStart =>
    rw [← hW1]
    exact ⟨0, rfl, Nat.zero_le _, by rw [show w.heap.size + 1 + 1 = W0.heap.size from hs0.symm]; exact HO0.out, X1.out⟩
  case round =>
    obtain ⟨k, rfl, hk, hO, hx⟩ := hrel
    have HO := Lib.hid hO
    have HX := Lib.hid hx
    clear hO hx
    have ct := ET.out wr HX.out
    by_cases hlt : k < fs.length - 1
    · have hk1 : k + 1 < fs.length := by omega
      obtain ⟨⟨la, lb, lc, ld⟩, _⟩ := leg_bounds hv hk1
      have HWY := Lib.hid (fun w' => way_spec a b c d (fx fs k).x (fx fs k).y (fx fs (k + 1)).x (fx fs (k + 1)).y w' ga gb gc gd la lb lc ld)
      have PA1 := Lib.hid (fun w' => point_spec (fx fs k).t (fx fs k).x (fx fs k).y w')
      have PA2 := Lib.hid (fun w' => point_spec (fx fs (k + 1)).t (fx fs (k + 1)).x (fx fs (k + 1)).y w')
      have i0 : (0 : Int) ≤ (k : Int) := by omega
      have i1 : (k : Int) < (fs.length : Int) := by omega
      have i2 : (0 : Int) ≤ (k : Int) + 1 := by omega
      have i3 : (k : Int) + 1 < (fs.length : Int) := by omega
      have T0 : IntKind.i64.wrap ((k : Int) + 1) = (k : Int) + 1 := wrap_succ (by omega)
      have T1 : ((k : Int) + 1).toNat = k + 1 := by omega
      have e0 : ∀ w', Ext wr w' → w'.cell? ⟨w.heap.size, 0, none⟩ = some (.slice (some ⟨bb, off, none⟩) fs.length cap) := fun w' h => ET.out w' (HX.out.trans h)
      have e1 : ∀ w', Ext wr w' → w'.cell? ⟨bb, off + k * 3, none⟩ = some (.int .i64 (fx fs k).t) := fun w' h => (HB.out w' (HX.out.trans h) k (by omega)).1
      have e2 : ∀ w', Ext wr w' → w'.cell? ⟨bb, off + k * 3 + 1, none⟩ = some (.int .i64 (fx fs k).x) := fun w' h => (HB.out w' (HX.out.trans h) k (by omega)).2.1
      have e3 : ∀ w', Ext wr w' → w'.cell? ⟨bb, off + k * 3 + 2, none⟩ = some (.int .i64 (fx fs k).y) := fun w' h => (HB.out w' (HX.out.trans h) k (by omega)).2.2
      have e4 : ∀ w', Ext wr w' → w'.cell? ⟨bb, off + (k + 1) * 3, none⟩ = some (.int .i64 (fx fs (k + 1)).t) := fun w' h => (HB.out w' (HX.out.trans h) (k + 1) hk1).1
      have e5 : ∀ w', Ext wr w' → w'.cell? ⟨bb, off + (k + 1) * 3 + 1, none⟩ = some (.int .i64 (fx fs (k + 1)).x) := fun w' h => (HB.out w' (HX.out.trans h) (k + 1) hk1).2.1
      have e6 : ∀ w', Ext wr w' → w'.cell? ⟨bb, off + (k + 1) * 3 + 2, none⟩ = some (.int .i64 (fx fs (k + 1)).y) := fun w' h => (HB.out w' (HX.out.trans h) (k + 1) hk1).2.2
      go_upto_region 5 with fail
      go_cut [7, 8] from 16 to 76 (fun s u wx => (∃ B, s = .pointer (some ⟨B, 0, none⟩) ∧ Box wx B [.int .i64 (fx fs k).x, .int .i64 (fx fs k).y]) ∧ (∃ B, u = .pointer (some ⟨B, 0, none⟩) ∧ Box wx B [.int .i64 (fx fs (k + 1)).x, .int .i64 (fx fs (k + 1)).y]) ∧ Ext wr wx)
      case first =>
        refine wp_region_held_drew (S := fun w' => Ext wr w') (by kernel_rfl) (by (try dsimp only); exact (Ext.refl _).drew) (fun hHeld => ?_)
        refine Ord.K 0 24 ?_; refine Ord.K 1 25 ?_; refine Ord.K 2 26 ?_; refine Ord.K 3 27 ?_; refine Ord.K 4 28 ?_; refine Ord.K 6 30 ?_; refine Ord.K 7 31 ?_; refine Ord.K 8 32 ?_; refine Ord.K 9 33 ?_; refine Ord.K 10 34 ?_; refine Ord.K 11 35 ?_
        have hE : Ext wr wr.drew := (Ext.refl wr).drew
        obtain ⟨V0, hV0⟩ : ∃ V0, V0 = wr.drew := ⟨_, rfl⟩
        rw [← hV0] at hE hHeld ⊢
        clear hV0
        refine wpAnyH_ready (rs := [5, 13, 14]) (by kernel_rfl) (by simp) ?_
        refine (AllReadyH.cons rfl (fun K hK => ?_) (AllReadyH.cons rfl (fun K hK => ?_) (AllReadyH.cons rfl (fun K hK => ?_) AllReadyH.nil)))
        · go_simp
          go_at_call 144
          refine (PA1.out _).mono ?_
          rintro e V1 ⟨rfl, hy⟩
          go_wp2_with fail
          have zy := Ext.size hy
          have hE' := hE.trans hy
          refine hK.out _ _ hE' (fun hHeld => ?_)
          clear hK K
          (try simp only [Act.put, Ord.a, Ord.b, Ord.c])
          replace hE := hE'
          clear hE' hy
          refine wpAnyH_ready (rs := [12, 13, 14]) (by kernel_rfl) (by simp) ?_
          refine (AllReadyH.cons rfl (fun K hK => ?_) (AllReadyH.cons rfl (fun K hK => ?_) (AllReadyH.cons rfl (fun K hK => ?_) AllReadyH.nil)))
          · go_simp
            go_at_call 144
            refine (PA2.out _).mono ?_
            rintro e V2 ⟨rfl, hy⟩
            go_wp2_with fail
            have zy := Ext.size hy
            have hE' := hE.trans hy
            refine hK.out _ _ hE' (fun hHeld => ?_)
            clear hK K
            (try simp only [Act.put, Ord.a, Ord.b, Ord.c])
            replace hE := hE'
            clear hE' hy
            refine wpAnyH_ready (rs := [13, 14]) (by kernel_rfl) (by simp) ?_
            refine (AllReadyH.cons rfl (fun K hK => ?_) (AllReadyH.cons rfl (fun K hK => ?_) AllReadyH.nil))
            · go_simp
              have hE' : Ext wr (V2.alloc (.cells #[.int .i64 0, .int .i64 0] 25)) := hE.alloc _
              refine hK.out _ _ hE' (fun hHeld => ?_)
              clear hK K
              (try simp only [Act.put, Ord.a, Ord.b, Ord.c])
              have P13 := Box.new2 (w := V2) (x := .int .i64 0) (y := .int .i64 0) (t := 25) rfl
              have zV2 := Ext.size hE
              have yV2 : V2.heap.size < (V2.alloc (.cells #[.int .i64 0, .int .i64 0] 25)).heap.size := by simp
              replace hE := hE'
              clear hE'
              generalize V2.alloc (.cells #[.int .i64 0, .int .i64 0] 25) = V3 at *
              refine wpAnyH_ready (rs := [14]) (by kernel_rfl) (by simp) ?_
              refine (AllReadyH.cons rfl (fun K hK => ?_) AllReadyH.nil)
              · go_simp
                have hE' : Ext wr (V3.alloc (.cells #[.int .i64 0, .int .i64 0] 25)) := hE.alloc _
                refine hK.out _ _ hE' (fun hHeld => ?_)
                clear hK K
                (try simp only [Act.put, Ord.a, Ord.b, Ord.c])
                replace P13 := P13.alloc (.cells #[.int .i64 0, .int .i64 0] 25)
                have P14 := Box.new2 (w := V3) (x := .int .i64 0) (y := .int .i64 0) (t := 25) rfl
                have zV3 := Ext.size hE
                have yV3 : V3.heap.size < (V3.alloc (.cells #[.int .i64 0, .int .i64 0] 25)).heap.size := by simp
                replace hE := hE'
                clear hE'
                generalize V3.alloc (.cells #[.int .i64 0, .int .i64 0] 25) = V4 at *
                obtain ⟨⟨r0, r1⟩, r2, r3⟩ := P13.two
                refine wpAnyH_ready (rs := [15]) (by kernel_rfl) (by simp) ?_
                refine AllReadyH.cons rfl (fun K hK => ?_) AllReadyH.nil
                go_simp
                have hE' : Ext wr ((V4.setCell ⟨V2.heap.size, 0, none⟩ (.int .i64 (fx fs k).x)).setCell ⟨V2.heap.size, 1, none⟩ (.int .i64 (fx fs k).y)) := (hE.setNew (by simp; omega) _).setNew (by simp; omega) _
                refine hK.out _ _ hE' (fun hHeld => ?_)
                clear hK K r0 r1 r2 r3
                (try simp only [Act.put, Ord.a, Ord.b, Ord.c])
                replace P13 := P13.set2 (u := .int .i64 (fx fs k).x) (v := .int .i64 (fx fs k).y)
                replace P14 := P14.away2 (m := V2.heap.size) (i := 0) (j := 1) (u := .int .i64 (fx fs k).x) (v := .int .i64 (fx fs k).y) (by omega)
                replace hE := hE'
                clear hE'
                generalize (V4.setCell ⟨V2.heap.size, 0, none⟩ (.int .i64 (fx fs k).x)).setCell ⟨V2.heap.size, 1, none⟩ (.int .i64 (fx fs k).y) = V5 at *
                obtain ⟨⟨r0, r1⟩, r2, r3⟩ := P14.two
                refine wpAnyH_ready (rs := [16]) (by kernel_rfl) (by simp) ?_
                refine AllReadyH.cons rfl (fun K hK => ?_) AllReadyH.nil
                go_simp
                have hE' : Ext wr ((V5.setCell ⟨V3.heap.size, 0, none⟩ (.int .i64 (fx fs (k + 1)).x)).setCell ⟨V3.heap.size, 1, none⟩ (.int .i64 (fx fs (k + 1)).y)) := (hE.setNew (by simp; omega) _).setNew (by simp; omega) _
                refine hK.out _ _ hE' (fun hHeld => ?_)
                clear hK K r0 r1 r2 r3
                (try simp only [Act.put, Ord.a, Ord.b, Ord.c])
                replace P14 := P14.set2 (u := .int .i64 (fx fs (k + 1)).x) (v := .int .i64 (fx fs (k + 1)).y)
                replace P13 := P13.away2 (m := V3.heap.size) (i := 0) (j := 1) (u := .int .i64 (fx fs (k + 1)).x) (v := .int .i64 (fx fs (k + 1)).y) (by omega)
                replace hE := hE'
                clear hE'
                generalize (V5.setCell ⟨V3.heap.size, 0, none⟩ (.int .i64 (fx fs (k + 1)).x)).setCell ⟨V3.heap.size, 1, none⟩ (.int .i64 (fx fs (k + 1)).y) = V6 at *
                refine wpAnyH_done (by kernel_rfl) ?_ _
                go_wp2_with fail
                go_meet
                exact ⟨⟨_, rfl, P13⟩, ⟨_, rfl, P14⟩, hE⟩
            · go_simp
              have hE' : Ext wr (V2.alloc (.cells #[.int .i64 0, .int .i64 0] 25)) := hE.alloc _
              refine hK.out _ _ hE' (fun hHeld => ?_)
              clear hK K
              (try simp only [Act.put, Ord.a, Ord.b, Ord.c])
              have P14 := Box.new2 (w := V2) (x := .int .i64 0) (y := .int .i64 0) (t := 25) rfl
              have zV2 := Ext.size hE
              have yV2 : V2.heap.size < (V2.alloc (.cells #[.int .i64 0, .int .i64 0] 25)).heap.size := by simp
              replace hE := hE'
              clear hE'
              generalize V2.alloc (.cells #[.int .i64 0, .int .i64 0] 25) = V3 at *
              refine wpAnyH_ready (rs := [13]) (by kernel_rfl) (by simp) ?_
              refine (AllReadyH.cons rfl (fun K hK => ?_) AllReadyH.nil)
              · go_simp
                have hE' : Ext wr (V3.alloc (.cells #[.int .i64 0, .int .i64 0] 25)) := hE.alloc _
                refine hK.out _ _ hE' (fun hHeld => ?_)
                clear hK K
                (try simp only [Act.put, Ord.a, Ord.b, Ord.c])
                replace P14 := P14.alloc (.cells #[.int .i64 0, .int .i64 0] 25)
                have P13 := Box.new2 (w := V3) (x := .int .i64 0) (y := .int .i64 0) (t := 25) rfl
                have zV3 := Ext.size hE
                have yV3 : V3.heap.size < (V3.alloc (.cells #[.int .i64 0, .int .i64 0] 25)).heap.size := by simp
                replace hE := hE'
                clear hE'
                generalize V3.alloc (.cells #[.int .i64 0, .int .i64 0] 25) = V4 at *
                obtain ⟨⟨r0, r1⟩, r2, r3⟩ := P13.two
                refine wpAnyH_ready (rs := [15]) (by kernel_rfl) (by simp) ?_
                refine AllReadyH.cons rfl (fun K hK => ?_) AllReadyH.nil
                go_simp
                have hE' : Ext wr ((V4.setCell ⟨V3.heap.size, 0, none⟩ (.int .i64 (fx fs k).x)).setCell ⟨V3.heap.size, 1, none⟩ (.int .i64 (fx fs k).y)) := (hE.setNew (by simp; omega) _).setNew (by simp; omega) _
                refine hK.out _ _ hE' (fun hHeld => ?_)
                clear hK K r0 r1 r2 r3
                (try simp only [Act.put, Ord.a, Ord.b, Ord.c])
                replace P13 := P13.set2 (u := .int .i64 (fx fs k).x) (v := .int .i64 (fx fs k).y)
                replace P14 := P14.away2 (m := V3.heap.size) (i := 0) (j := 1) (u := .int .i64 (fx fs k).x) (v := .int .i64 (fx fs k).y) (by omega)
                replace hE := hE'
                clear hE'
                generalize (V4.setCell ⟨V3.heap.size, 0, none⟩ (.int .i64 (fx fs k).x)).setCell ⟨V3.heap.size, 1, none⟩ (.int .i64 (fx fs k).y) = V5 at *
                obtain ⟨⟨r0, r1⟩, r2, r3⟩ := P14.two
                refine wpAnyH_ready (rs := [16]) (by kernel_rfl) (by simp) ?_
                refine AllReadyH.cons rfl (fun K hK => ?_) AllReadyH.nil
                go_simp
                have hE' : Ext wr ((V5.setCell ⟨V2.heap.size, 0, none⟩ (.int .i64 (fx fs (k + 1)).x)).setCell ⟨V2.heap.size, 1, none⟩ (.int .i64 (fx fs (k + 1)).y)) := (hE.setNew (by simp; omega) _).setNew (by simp; omega) _
                refine hK.out _ _ hE' (fun hHeld => ?_)
                clear hK K r0 r1 r2 r3
                (try simp only [Act.put, Ord.a, Ord.b, Ord.c])
                replace P14 := P14.set2 (u := .int .i64 (fx fs (k + 1)).x) (v := .int .i64 (fx fs (k + 1)).y)
                replace P13 := P13.away2 (m := V2.heap.size) (i := 0) (j := 1) (u := .int .i64 (fx fs (k + 1)).x) (v := .int .i64 (fx fs (k + 1)).y) (by omega)
                replace hE := hE'
                clear hE'
                generalize (V5.setCell ⟨V2.heap.size, 0, none⟩ (.int .i64 (fx fs (k + 1)).x)).setCell ⟨V2.heap.size, 1, none⟩ (.int .i64 (fx fs (k + 1)).y) = V6 at *
                refine wpAnyH_done (by kernel_rfl) ?_ _
                go_wp2_with fail
                go_meet
                exact ⟨⟨_, rfl, P13⟩, ⟨_, rfl, P14⟩, hE⟩
          · go_simp
            have hE' : Ext wr (V1.alloc (.cells #[.int .i64 0, .int .i64 0] 25)) := hE.alloc _
            refine hK.out _ _ hE' (fun hHeld => ?_)
            clear hK K
            (try simp only [Act.put, Ord.a, Ord.b, Ord.c])
            have P13 := Box.new2 (w := V1) (x := .int .i64 0) (y := .int .i64 0) (t := 25) rfl
            have zV1 := Ext.size hE
            have yV1 : V1.heap.size < (V1.alloc (.cells #[.int .i64 0, .int .i64 0] 25)).heap.size := by simp
            replace hE := hE'
            clear hE'
            generalize V1.alloc (.cells #[.int .i64 0, .int .i64 0] 25) = V2 at *
            refine wpAnyH_ready (rs := [12, 14]) (by kernel_rfl) (by simp) ?_
            refine (AllReadyH.cons rfl (fun K hK => ?_) (AllReadyH.cons rfl (fun K hK => ?_) AllReadyH.nil))
            · go_simp
              go_at_call 144
              refine (PA2.out _).mono ?_
              rintro e V3 ⟨rfl, hy⟩
              go_wp2_with fail
              have zy := Ext.size hy
              have hE' := hE.trans hy
              refine hK.out _ _ hE' (fun hHeld => ?_)
              clear hK K
              (try simp only [Act.put, Ord.a, Ord.b, Ord.c])
              replace P13 := P13.ext hy
              replace hE := hE'
              clear hE' hy
              refine wpAnyH_ready (rs := [14]) (by kernel_rfl) (by simp) ?_
              refine (AllReadyH.cons rfl (fun K hK => ?_) AllReadyH.nil)
              · go_simp
                have hE' : Ext wr (V3.alloc (.cells #[.int .i64 0, .int .i64 0] 25)) := hE.alloc _
                refine hK.out _ _ hE' (fun hHeld => ?_)
                clear hK K
                (try simp only [Act.put, Ord.a, Ord.b, Ord.c])
                replace P13 := P13.alloc (.cells #[.int .i64 0, .int .i64 0] 25)
                have P14 := Box.new2 (w := V3) (x := .int .i64 0) (y := .int .i64 0) (t := 25) rfl
                have zV3 := Ext.size hE
                have yV3 : V3.heap.size < (V3.alloc (.cells #[.int .i64 0, .int .i64 0] 25)).heap.size := by simp
                replace hE := hE'
                clear hE'
                generalize V3.alloc (.cells #[.int .i64 0, .int .i64 0] 25) = V4 at *
                obtain ⟨⟨r0, r1⟩, r2, r3⟩ := P13.two
                refine wpAnyH_ready (rs := [15]) (by kernel_rfl) (by simp) ?_
                refine AllReadyH.cons rfl (fun K hK => ?_) AllReadyH.nil
                go_simp
                have hE' : Ext wr ((V4.setCell ⟨V1.heap.size, 0, none⟩ (.int .i64 (fx fs k).x)).setCell ⟨V1.heap.size, 1, none⟩ (.int .i64 (fx fs k).y)) := (hE.setNew (by simp; omega) _).setNew (by simp; omega) _
                refine hK.out _ _ hE' (fun hHeld => ?_)
                clear hK K r0 r1 r2 r3
                (try simp only [Act.put, Ord.a, Ord.b, Ord.c])
                replace P13 := P13.set2 (u := .int .i64 (fx fs k).x) (v := .int .i64 (fx fs k).y)
                replace P14 := P14.away2 (m := V1.heap.size) (i := 0) (j := 1) (u := .int .i64 (fx fs k).x) (v := .int .i64 (fx fs k).y) (by omega)
                replace hE := hE'
                clear hE'
                generalize (V4.setCell ⟨V1.heap.size, 0, none⟩ (.int .i64 (fx fs k).x)).setCell ⟨V1.heap.size, 1, none⟩ (.int .i64 (fx fs k).y) = V5 at *
                obtain ⟨⟨r0, r1⟩, r2, r3⟩ := P14.two
                refine wpAnyH_ready (rs := [16]) (by kernel_rfl) (by simp) ?_
                refine AllReadyH.cons rfl (fun K hK => ?_) AllReadyH.nil
                go_simp
                have hE' : Ext wr ((V5.setCell ⟨V3.heap.size, 0, none⟩ (.int .i64 (fx fs (k + 1)).x)).setCell ⟨V3.heap.size, 1, none⟩ (.int .i64 (fx fs (k + 1)).y)) := (hE.setNew (by simp; omega) _).setNew (by simp; omega) _
                refine hK.out _ _ hE' (fun hHeld => ?_)
                clear hK K r0 r1 r2 r3
                (try simp only [Act.put, Ord.a, Ord.b, Ord.c])
                replace P14 := P14.set2 (u := .int .i64 (fx fs (k + 1)).x) (v := .int .i64 (fx fs (k + 1)).y)
                replace P13 := P13.away2 (m := V3.heap.size) (i := 0) (j := 1) (u := .int .i64 (fx fs (k + 1)).x) (v := .int .i64 (fx fs (k + 1)).y) (by omega)
                replace hE := hE'
                clear hE'
                generalize (V5.setCell ⟨V3.heap.size, 0, none⟩ (.int .i64 (fx fs (k + 1)).x)).setCell ⟨V3.heap.size, 1, none⟩ (.int .i64 (fx fs (k + 1)).y) = V6 at *
                refine wpAnyH_done (by kernel_rfl) ?_ _
                go_wp2_with fail
                go_meet
                exact ⟨⟨_, rfl, P13⟩, ⟨_, rfl, P14⟩, hE⟩
            · go_simp
              have hE' : Ext wr (V2.alloc (.cells #[.int .i64 0, .int .i64 0] 25)) := hE.alloc _
              refine hK.out _ _ hE' (fun hHeld => ?_)
              clear hK K
              (try simp only [Act.put, Ord.a, Ord.b, Ord.c])
              replace P13 := P13.alloc (.cells #[.int .i64 0, .int .i64 0] 25)
              have P14 := Box.new2 (w := V2) (x := .int .i64 0) (y := .int .i64 0) (t := 25) rfl
              have zV2 := Ext.size hE
              have yV2 : V2.heap.size < (V2.alloc (.cells #[.int .i64 0, .int .i64 0] 25)).heap.size := by simp
              replace hE := hE'
              clear hE'
              generalize V2.alloc (.cells #[.int .i64 0, .int .i64 0] 25) = V3 at *
              refine wpAnyH_ready (rs := [12]) (by kernel_rfl) (by simp) ?_
              refine (AllReadyH.cons rfl (fun K hK => ?_) AllReadyH.nil)
              · go_simp
                go_at_call 144
                refine (PA2.out _).mono ?_
                rintro e V4 ⟨rfl, hy⟩
                go_wp2_with fail
                have zy := Ext.size hy
                have hE' := hE.trans hy
                refine hK.out _ _ hE' (fun hHeld => ?_)
                clear hK K
                (try simp only [Act.put, Ord.a, Ord.b, Ord.c])
                replace P13 := P13.ext hy
                replace P14 := P14.ext hy
                replace hE := hE'
                clear hE' hy
                obtain ⟨⟨r0, r1⟩, r2, r3⟩ := P13.two
                refine wpAnyH_ready (rs := [15]) (by kernel_rfl) (by simp) ?_
                refine AllReadyH.cons rfl (fun K hK => ?_) AllReadyH.nil
                go_simp
                have hE' : Ext wr ((V4.setCell ⟨V1.heap.size, 0, none⟩ (.int .i64 (fx fs k).x)).setCell ⟨V1.heap.size, 1, none⟩ (.int .i64 (fx fs k).y)) := (hE.setNew (by simp; omega) _).setNew (by simp; omega) _
                refine hK.out _ _ hE' (fun hHeld => ?_)
                clear hK K r0 r1 r2 r3
                (try simp only [Act.put, Ord.a, Ord.b, Ord.c])
                replace P13 := P13.set2 (u := .int .i64 (fx fs k).x) (v := .int .i64 (fx fs k).y)
                replace P14 := P14.away2 (m := V1.heap.size) (i := 0) (j := 1) (u := .int .i64 (fx fs k).x) (v := .int .i64 (fx fs k).y) (by omega)
                replace hE := hE'
                clear hE'
                generalize (V4.setCell ⟨V1.heap.size, 0, none⟩ (.int .i64 (fx fs k).x)).setCell ⟨V1.heap.size, 1, none⟩ (.int .i64 (fx fs k).y) = V5 at *
                obtain ⟨⟨r0, r1⟩, r2, r3⟩ := P14.two
                refine wpAnyH_ready (rs := [16]) (by kernel_rfl) (by simp) ?_
                refine AllReadyH.cons rfl (fun K hK => ?_) AllReadyH.nil
                go_simp
                have hE' : Ext wr ((V5.setCell ⟨V2.heap.size, 0, none⟩ (.int .i64 (fx fs (k + 1)).x)).setCell ⟨V2.heap.size, 1, none⟩ (.int .i64 (fx fs (k + 1)).y)) := (hE.setNew (by simp; omega) _).setNew (by simp; omega) _
                refine hK.out _ _ hE' (fun hHeld => ?_)
                clear hK K r0 r1 r2 r3
                (try simp only [Act.put, Ord.a, Ord.b, Ord.c])
                replace P14 := P14.set2 (u := .int .i64 (fx fs (k + 1)).x) (v := .int .i64 (fx fs (k + 1)).y)
                replace P13 := P13.away2 (m := V2.heap.size) (i := 0) (j := 1) (u := .int .i64 (fx fs (k + 1)).x) (v := .int .i64 (fx fs (k + 1)).y) (by omega)
                replace hE := hE'
                clear hE'
                generalize (V5.setCell ⟨V2.heap.size, 0, none⟩ (.int .i64 (fx fs (k + 1)).x)).setCell ⟨V2.heap.size, 1, none⟩ (.int .i64 (fx fs (k + 1)).y) = V6 at *
                refine wpAnyH_done (by kernel_rfl) ?_ _
                go_wp2_with fail
                go_meet
                exact ⟨⟨_, rfl, P13⟩, ⟨_, rfl, P14⟩, hE⟩
          · go_simp
            have hE' : Ext wr (V1.alloc (.cells #[.int .i64 0, .int .i64 0] 25)) := hE.alloc _
            refine hK.out _ _ hE' (fun hHeld => ?_)
            clear hK K
            (try simp only [Act.put, Ord.a, Ord.b, Ord.c])
            have P14 := Box.new2 (w := V1) (x := .int .i64 0) (y := .int .i64 0) (t := 25) rfl
            have zV1 := Ext.size hE
            have yV1 : V1.heap.size < (V1.alloc (.cells #[.int .i64 0, .int .i64 0] 25)).heap.size := by simp
            replace hE := hE'
            clear hE'
            generalize V1.alloc (.cells #[.int .i64 0, .int .i64 0] 25) = V2 at *
            refine wpAnyH_ready (rs := [12, 13]) (by kernel_rfl) (by simp) ?_
            refine (AllReadyH.cons rfl (fun K hK => ?_) (AllReadyH.cons rfl (fun K hK => ?_) AllReadyH.nil))
            · go_simp
              go_at_call 144
              refine (PA2.out _).mono ?_
              rintro e V3 ⟨rfl, hy⟩
              go_wp2_with fail
              have zy := Ext.size hy
              have hE' := hE.trans hy
              refine hK.out _ _ hE' (fun hHeld => ?_)
              clear hK K
              (try simp only [Act.put, Ord.a, Ord.b, Ord.c])
              replace P14 := P14.ext hy
              replace hE := hE'
              clear hE' hy
              refine wpAnyH_ready (rs := [13]) (by kernel_rfl) (by simp) ?_
              refine (AllReadyH.cons rfl (fun K hK => ?_) AllReadyH.nil)
              · go_simp
                have hE' : Ext wr (V3.alloc (.cells #[.int .i64 0, .int .i64 0] 25)) := hE.alloc _
                refine hK.out _ _ hE' (fun hHeld => ?_)
                clear hK K
                (try simp only [Act.put, Ord.a, Ord.b, Ord.c])
                replace P14 := P14.alloc (.cells #[.int .i64 0, .int .i64 0] 25)
                have P13 := Box.new2 (w := V3) (x := .int .i64 0) (y := .int .i64 0) (t := 25) rfl
                have zV3 := Ext.size hE
                have yV3 : V3.heap.size < (V3.alloc (.cells #[.int .i64 0, .int .i64 0] 25)).heap.size := by simp
                replace hE := hE'
                clear hE'
                generalize V3.alloc (.cells #[.int .i64 0, .int .i64 0] 25) = V4 at *
                obtain ⟨⟨r0, r1⟩, r2, r3⟩ := P13.two
                refine wpAnyH_ready (rs := [15]) (by kernel_rfl) (by simp) ?_
                refine AllReadyH.cons rfl (fun K hK => ?_) AllReadyH.nil
                go_simp
                have hE' : Ext wr ((V4.setCell ⟨V3.heap.size, 0, none⟩ (.int .i64 (fx fs k).x)).setCell ⟨V3.heap.size, 1, none⟩ (.int .i64 (fx fs k).y)) := (hE.setNew (by simp; omega) _).setNew (by simp; omega) _
                refine hK.out _ _ hE' (fun hHeld => ?_)
                clear hK K r0 r1 r2 r3
                (try simp only [Act.put, Ord.a, Ord.b, Ord.c])
                replace P13 := P13.set2 (u := .int .i64 (fx fs k).x) (v := .int .i64 (fx fs k).y)
                replace P14 := P14.away2 (m := V3.heap.size) (i := 0) (j := 1) (u := .int .i64 (fx fs k).x) (v := .int .i64 (fx fs k).y) (by omega)
                replace hE := hE'
                clear hE'
                generalize (V4.setCell ⟨V3.heap.size, 0, none⟩ (.int .i64 (fx fs k).x)).setCell ⟨V3.heap.size, 1, none⟩ (.int .i64 (fx fs k).y) = V5 at *
                obtain ⟨⟨r0, r1⟩, r2, r3⟩ := P14.two
                refine wpAnyH_ready (rs := [16]) (by kernel_rfl) (by simp) ?_
                refine AllReadyH.cons rfl (fun K hK => ?_) AllReadyH.nil
                go_simp
                have hE' : Ext wr ((V5.setCell ⟨V1.heap.size, 0, none⟩ (.int .i64 (fx fs (k + 1)).x)).setCell ⟨V1.heap.size, 1, none⟩ (.int .i64 (fx fs (k + 1)).y)) := (hE.setNew (by simp; omega) _).setNew (by simp; omega) _
                refine hK.out _ _ hE' (fun hHeld => ?_)
                clear hK K r0 r1 r2 r3
                (try simp only [Act.put, Ord.a, Ord.b, Ord.c])
                replace P14 := P14.set2 (u := .int .i64 (fx fs (k + 1)).x) (v := .int .i64 (fx fs (k + 1)).y)
                replace P13 := P13.away2 (m := V1.heap.size) (i := 0) (j := 1) (u := .int .i64 (fx fs (k + 1)).x) (v := .int .i64 (fx fs (k + 1)).y) (by omega)
                replace hE := hE'
                clear hE'
                generalize (V5.setCell ⟨V1.heap.size, 0, none⟩ (.int .i64 (fx fs (k + 1)).x)).setCell ⟨V1.heap.size, 1, none⟩ (.int .i64 (fx fs (k + 1)).y) = V6 at *
                refine wpAnyH_done (by kernel_rfl) ?_ _
                go_wp2_with fail
                go_meet
                exact ⟨⟨_, rfl, P13⟩, ⟨_, rfl, P14⟩, hE⟩
            · go_simp
              have hE' : Ext wr (V2.alloc (.cells #[.int .i64 0, .int .i64 0] 25)) := hE.alloc _
              refine hK.out _ _ hE' (fun hHeld => ?_)
              clear hK K
              (try simp only [Act.put, Ord.a, Ord.b, Ord.c])
              replace P14 := P14.alloc (.cells #[.int .i64 0, .int .i64 0] 25)
              have P13 := Box.new2 (w := V2) (x := .int .i64 0) (y := .int .i64 0) (t := 25) rfl
              have zV2 := Ext.size hE
              have yV2 : V2.heap.size < (V2.alloc (.cells #[.int .i64 0, .int .i64 0] 25)).heap.size := by simp
              replace hE := hE'
              clear hE'
              generalize V2.alloc (.cells #[.int .i64 0, .int .i64 0] 25) = V3 at *
              refine wpAnyH_ready (rs := [12]) (by kernel_rfl) (by simp) ?_
              refine (AllReadyH.cons rfl (fun K hK => ?_) AllReadyH.nil)
              · go_simp
                go_at_call 144
                refine (PA2.out _).mono ?_
                rintro e V4 ⟨rfl, hy⟩
                go_wp2_with fail
                have zy := Ext.size hy
                have hE' := hE.trans hy
                refine hK.out _ _ hE' (fun hHeld => ?_)
                clear hK K
                (try simp only [Act.put, Ord.a, Ord.b, Ord.c])
                replace P14 := P14.ext hy
                replace P13 := P13.ext hy
                replace hE := hE'
                clear hE' hy
                obtain ⟨⟨r0, r1⟩, r2, r3⟩ := P13.two
                refine wpAnyH_ready (rs := [15]) (by kernel_rfl) (by simp) ?_
                refine AllReadyH.cons rfl (fun K hK => ?_) AllReadyH.nil
                go_simp
                have hE' : Ext wr ((V4.setCell ⟨V2.heap.size, 0, none⟩ (.int .i64 (fx fs k).x)).setCell ⟨V2.heap.size, 1, none⟩ (.int .i64 (fx fs k).y)) := (hE.setNew (by simp; omega) _).setNew (by simp; omega) _
                refine hK.out _ _ hE' (fun hHeld => ?_)
                clear hK K r0 r1 r2 r3
                (try simp only [Act.put, Ord.a, Ord.b, Ord.c])
                replace P13 := P13.set2 (u := .int .i64 (fx fs k).x) (v := .int .i64 (fx fs k).y)
                replace P14 := P14.away2 (m := V2.heap.size) (i := 0) (j := 1) (u := .int .i64 (fx fs k).x) (v := .int .i64 (fx fs k).y) (by omega)
                replace hE := hE'
                clear hE'
                generalize (V4.setCell ⟨V2.heap.size, 0, none⟩ (.int .i64 (fx fs k).x)).setCell ⟨V2.heap.size, 1, none⟩ (.int .i64 (fx fs k).y) = V5 at *
                obtain ⟨⟨r0, r1⟩, r2, r3⟩ := P14.two
                refine wpAnyH_ready (rs := [16]) (by kernel_rfl) (by simp) ?_
                refine AllReadyH.cons rfl (fun K hK => ?_) AllReadyH.nil
                go_simp
                have hE' : Ext wr ((V5.setCell ⟨V1.heap.size, 0, none⟩ (.int .i64 (fx fs (k + 1)).x)).setCell ⟨V1.heap.size, 1, none⟩ (.int .i64 (fx fs (k + 1)).y)) := (hE.setNew (by simp; omega) _).setNew (by simp; omega) _
                refine hK.out _ _ hE' (fun hHeld => ?_)
                clear hK K r0 r1 r2 r3
                (try simp only [Act.put, Ord.a, Ord.b, Ord.c])
                replace P14 := P14.set2 (u := .int .i64 (fx fs (k + 1)).x) (v := .int .i64 (fx fs (k + 1)).y)
                replace P13 := P13.away2 (m := V1.heap.size) (i := 0) (j := 1) (u := .int .i64 (fx fs (k + 1)).x) (v := .int .i64 (fx fs (k + 1)).y) (by omega)
                replace hE := hE'
                clear hE'
                generalize (V5.setCell ⟨V1.heap.size, 0, none⟩ (.int .i64 (fx fs (k + 1)).x)).setCell ⟨V1.heap.size, 1, none⟩ (.int .i64 (fx fs (k + 1)).y) = V6 at *
                refine wpAnyH_done (by kernel_rfl) ?_ _
                go_wp2_with fail
                go_meet
                exact ⟨⟨_, rfl, P13⟩, ⟨_, rfl, P14⟩, hE⟩
        · go_simp
          have hE' : Ext wr (V0.alloc (.cells #[.int .i64 0, .int .i64 0] 25)) := hE.alloc _
          refine hK.out _ _ hE' (fun hHeld => ?_)
          clear hK K
          (try simp only [Act.put, Ord.a, Ord.b, Ord.c])
          have P13 := Box.new2 (w := V0) (x := .int .i64 0) (y := .int .i64 0) (t := 25) rfl
          have zV0 := Ext.size hE
          have yV0 : V0.heap.size < (V0.alloc (.cells #[.int .i64 0, .int .i64 0] 25)).heap.size := by simp
          replace hE := hE'
          clear hE'
          generalize V0.alloc (.cells #[.int .i64 0, .int .i64 0] 25) = V1 at *
          refine wpAnyH_ready (rs := [5, 14]) (by kernel_rfl) (by simp) ?_
          refine (AllReadyH.cons rfl (fun K hK => ?_) (AllReadyH.cons rfl (fun K hK => ?_) AllReadyH.nil))
          · go_simp
            go_at_call 144
            refine (PA1.out _).mono ?_
            rintro e V2 ⟨rfl, hy⟩
            go_wp2_with fail
            have zy := Ext.size hy
            have hE' := hE.trans hy
            refine hK.out _ _ hE' (fun hHeld => ?_)
            clear hK K
            (try simp only [Act.put, Ord.a, Ord.b, Ord.c])
            replace P13 := P13.ext hy
            replace hE := hE'
            clear hE' hy
            refine wpAnyH_ready (rs := [12, 14]) (by kernel_rfl) (by simp) ?_
            refine (AllReadyH.cons rfl (fun K hK => ?_) (AllReadyH.cons rfl (fun K hK => ?_) AllReadyH.nil))
            · go_simp
              go_at_call 144
              refine (PA2.out _).mono ?_
              rintro e V3 ⟨rfl, hy⟩
              go_wp2_with fail
              have zy := Ext.size hy
              have hE' := hE.trans hy
              refine hK.out _ _ hE' (fun hHeld => ?_)
              clear hK K
              (try simp only [Act.put, Ord.a, Ord.b, Ord.c])
              replace P13 := P13.ext hy
              replace hE := hE'
              clear hE' hy
              refine wpAnyH_ready (rs := [14]) (by kernel_rfl) (by simp) ?_
              refine (AllReadyH.cons rfl (fun K hK => ?_) AllReadyH.nil)
              · go_simp
                have hE' : Ext wr (V3.alloc (.cells #[.int .i64 0, .int .i64 0] 25)) := hE.alloc _
                refine hK.out _ _ hE' (fun hHeld => ?_)
                clear hK K
                (try simp only [Act.put, Ord.a, Ord.b, Ord.c])
                replace P13 := P13.alloc (.cells #[.int .i64 0, .int .i64 0] 25)
                have P14 := Box.new2 (w := V3) (x := .int .i64 0) (y := .int .i64 0) (t := 25) rfl
                have zV3 := Ext.size hE
                have yV3 : V3.heap.size < (V3.alloc (.cells #[.int .i64 0, .int .i64 0] 25)).heap.size := by simp
                replace hE := hE'
                clear hE'
                generalize V3.alloc (.cells #[.int .i64 0, .int .i64 0] 25) = V4 at *
                obtain ⟨⟨r0, r1⟩, r2, r3⟩ := P13.two
                refine wpAnyH_ready (rs := [15]) (by kernel_rfl) (by simp) ?_
                refine AllReadyH.cons rfl (fun K hK => ?_) AllReadyH.nil
                go_simp
                have hE' : Ext wr ((V4.setCell ⟨V0.heap.size, 0, none⟩ (.int .i64 (fx fs k).x)).setCell ⟨V0.heap.size, 1, none⟩ (.int .i64 (fx fs k).y)) := (hE.setNew (by simp; omega) _).setNew (by simp; omega) _
                refine hK.out _ _ hE' (fun hHeld => ?_)
                clear hK K r0 r1 r2 r3
                (try simp only [Act.put, Ord.a, Ord.b, Ord.c])
                replace P13 := P13.set2 (u := .int .i64 (fx fs k).x) (v := .int .i64 (fx fs k).y)
                replace P14 := P14.away2 (m := V0.heap.size) (i := 0) (j := 1) (u := .int .i64 (fx fs k).x) (v := .int .i64 (fx fs k).y) (by omega)
                replace hE := hE'
                clear hE'
                generalize (V4.setCell ⟨V0.heap.size, 0, none⟩ (.int .i64 (fx fs k).x)).setCell ⟨V0.heap.size, 1, none⟩ (.int .i64 (fx fs k).y) = V5 at *
                obtain ⟨⟨r0, r1⟩, r2, r3⟩ := P14.two
                refine wpAnyH_ready (rs := [16]) (by kernel_rfl) (by simp) ?_
                refine AllReadyH.cons rfl (fun K hK => ?_) AllReadyH.nil
                go_simp
                have hE' : Ext wr ((V5.setCell ⟨V3.heap.size, 0, none⟩ (.int .i64 (fx fs (k + 1)).x)).setCell ⟨V3.heap.size, 1, none⟩ (.int .i64 (fx fs (k + 1)).y)) := (hE.setNew (by simp; omega) _).setNew (by simp; omega) _
                refine hK.out _ _ hE' (fun hHeld => ?_)
                clear hK K r0 r1 r2 r3
                (try simp only [Act.put, Ord.a, Ord.b, Ord.c])
                replace P14 := P14.set2 (u := .int .i64 (fx fs (k + 1)).x) (v := .int .i64 (fx fs (k + 1)).y)
                replace P13 := P13.away2 (m := V3.heap.size) (i := 0) (j := 1) (u := .int .i64 (fx fs (k + 1)).x) (v := .int .i64 (fx fs (k + 1)).y) (by omega)
                replace hE := hE'
                clear hE'
                generalize (V5.setCell ⟨V3.heap.size, 0, none⟩ (.int .i64 (fx fs (k + 1)).x)).setCell ⟨V3.heap.size, 1, none⟩ (.int .i64 (fx fs (k + 1)).y) = V6 at *
                refine wpAnyH_done (by kernel_rfl) ?_ _
                go_wp2_with fail
                go_meet
                exact ⟨⟨_, rfl, P13⟩, ⟨_, rfl, P14⟩, hE⟩
            · go_simp
              have hE' : Ext wr (V2.alloc (.cells #[.int .i64 0, .int .i64 0] 25)) := hE.alloc _
              refine hK.out _ _ hE' (fun hHeld => ?_)
              clear hK K
              (try simp only [Act.put, Ord.a, Ord.b, Ord.c])
              replace P13 := P13.alloc (.cells #[.int .i64 0, .int .i64 0] 25)
              have P14 := Box.new2 (w := V2) (x := .int .i64 0) (y := .int .i64 0) (t := 25) rfl
              have zV2 := Ext.size hE
              have yV2 : V2.heap.size < (V2.alloc (.cells #[.int .i64 0, .int .i64 0] 25)).heap.size := by simp
              replace hE := hE'
              clear hE'
              generalize V2.alloc (.cells #[.int .i64 0, .int .i64 0] 25) = V3 at *
              refine wpAnyH_ready (rs := [12]) (by kernel_rfl) (by simp) ?_
              refine (AllReadyH.cons rfl (fun K hK => ?_) AllReadyH.nil)
              · go_simp
                go_at_call 144
                refine (PA2.out _).mono ?_
                rintro e V4 ⟨rfl, hy⟩
                go_wp2_with fail
                have zy := Ext.size hy
                have hE' := hE.trans hy
                refine hK.out _ _ hE' (fun hHeld => ?_)
                clear hK K
                (try simp only [Act.put, Ord.a, Ord.b, Ord.c])
                replace P13 := P13.ext hy
                replace P14 := P14.ext hy
                replace hE := hE'
                clear hE' hy
                obtain ⟨⟨r0, r1⟩, r2, r3⟩ := P13.two
                refine wpAnyH_ready (rs := [15]) (by kernel_rfl) (by simp) ?_
                refine AllReadyH.cons rfl (fun K hK => ?_) AllReadyH.nil
                go_simp
                have hE' : Ext wr ((V4.setCell ⟨V0.heap.size, 0, none⟩ (.int .i64 (fx fs k).x)).setCell ⟨V0.heap.size, 1, none⟩ (.int .i64 (fx fs k).y)) := (hE.setNew (by simp; omega) _).setNew (by simp; omega) _
                refine hK.out _ _ hE' (fun hHeld => ?_)
                clear hK K r0 r1 r2 r3
                (try simp only [Act.put, Ord.a, Ord.b, Ord.c])
                replace P13 := P13.set2 (u := .int .i64 (fx fs k).x) (v := .int .i64 (fx fs k).y)
                replace P14 := P14.away2 (m := V0.heap.size) (i := 0) (j := 1) (u := .int .i64 (fx fs k).x) (v := .int .i64 (fx fs k).y) (by omega)
                replace hE := hE'
                clear hE'
                generalize (V4.setCell ⟨V0.heap.size, 0, none⟩ (.int .i64 (fx fs k).x)).setCell ⟨V0.heap.size, 1, none⟩ (.int .i64 (fx fs k).y) = V5 at *
                obtain ⟨⟨r0, r1⟩, r2, r3⟩ := P14.two
                refine wpAnyH_ready (rs := [16]) (by kernel_rfl) (by simp) ?_
                refine AllReadyH.cons rfl (fun K hK => ?_) AllReadyH.nil
                go_simp
                have hE' : Ext wr ((V5.setCell ⟨V2.heap.size, 0, none⟩ (.int .i64 (fx fs (k + 1)).x)).setCell ⟨V2.heap.size, 1, none⟩ (.int .i64 (fx fs (k + 1)).y)) := (hE.setNew (by simp; omega) _).setNew (by simp; omega) _
                refine hK.out _ _ hE' (fun hHeld => ?_)
                clear hK K r0 r1 r2 r3
                (try simp only [Act.put, Ord.a, Ord.b, Ord.c])
                replace P14 := P14.set2 (u := .int .i64 (fx fs (k + 1)).x) (v := .int .i64 (fx fs (k + 1)).y)
                replace P13 := P13.away2 (m := V2.heap.size) (i := 0) (j := 1) (u := .int .i64 (fx fs (k + 1)).x) (v := .int .i64 (fx fs (k + 1)).y) (by omega)
                replace hE := hE'
                clear hE'
                generalize (V5.setCell ⟨V2.heap.size, 0, none⟩ (.int .i64 (fx fs (k + 1)).x)).setCell ⟨V2.heap.size, 1, none⟩ (.int .i64 (fx fs (k + 1)).y) = V6 at *
                refine wpAnyH_done (by kernel_rfl) ?_ _
                go_wp2_with fail
                go_meet
                exact ⟨⟨_, rfl, P13⟩, ⟨_, rfl, P14⟩, hE⟩
          · go_simp
            have hE' : Ext wr (V1.alloc (.cells #[.int .i64 0, .int .i64 0] 25)) := hE.alloc _
            refine hK.out _ _ hE' (fun hHeld => ?_)
            clear hK K
            (try simp only [Act.put, Ord.a, Ord.b, Ord.c])
            replace P13 := P13.alloc (.cells #[.int .i64 0, .int .i64 0] 25)
            have P14 := Box.new2 (w := V1) (x := .int .i64 0) (y := .int .i64 0) (t := 25) rfl
            have zV1 := Ext.size hE
            have yV1 : V1.heap.size < (V1.alloc (.cells #[.int .i64 0, .int .i64 0] 25)).heap.size := by simp
            replace hE := hE'
            clear hE'
            generalize V1.alloc (.cells #[.int .i64 0, .int .i64 0] 25) = V2 at *
            refine wpAnyH_ready (rs := [5]) (by kernel_rfl) (by simp) ?_
            refine (AllReadyH.cons rfl (fun K hK => ?_) AllReadyH.nil)
            · go_simp
              go_at_call 144
              refine (PA1.out _).mono ?_
              rintro e V3 ⟨rfl, hy⟩
              go_wp2_with fail
              have zy := Ext.size hy
              have hE' := hE.trans hy
              refine hK.out _ _ hE' (fun hHeld => ?_)
              clear hK K
              (try simp only [Act.put, Ord.a, Ord.b, Ord.c])
              replace P13 := P13.ext hy
              replace P14 := P14.ext hy
              replace hE := hE'
              clear hE' hy
              refine wpAnyH_ready (rs := [12]) (by kernel_rfl) (by simp) ?_
              refine (AllReadyH.cons rfl (fun K hK => ?_) AllReadyH.nil)
              · go_simp
                go_at_call 144
                refine (PA2.out _).mono ?_
                rintro e V4 ⟨rfl, hy⟩
                go_wp2_with fail
                have zy := Ext.size hy
                have hE' := hE.trans hy
                refine hK.out _ _ hE' (fun hHeld => ?_)
                clear hK K
                (try simp only [Act.put, Ord.a, Ord.b, Ord.c])
                replace P13 := P13.ext hy
                replace P14 := P14.ext hy
                replace hE := hE'
                clear hE' hy
                obtain ⟨⟨r0, r1⟩, r2, r3⟩ := P13.two
                refine wpAnyH_ready (rs := [15]) (by kernel_rfl) (by simp) ?_
                refine AllReadyH.cons rfl (fun K hK => ?_) AllReadyH.nil
                go_simp
                have hE' : Ext wr ((V4.setCell ⟨V0.heap.size, 0, none⟩ (.int .i64 (fx fs k).x)).setCell ⟨V0.heap.size, 1, none⟩ (.int .i64 (fx fs k).y)) := (hE.setNew (by simp; omega) _).setNew (by simp; omega) _
                refine hK.out _ _ hE' (fun hHeld => ?_)
                clear hK K r0 r1 r2 r3
                (try simp only [Act.put, Ord.a, Ord.b, Ord.c])
                replace P13 := P13.set2 (u := .int .i64 (fx fs k).x) (v := .int .i64 (fx fs k).y)
                replace P14 := P14.away2 (m := V0.heap.size) (i := 0) (j := 1) (u := .int .i64 (fx fs k).x) (v := .int .i64 (fx fs k).y) (by omega)
                replace hE := hE'
                clear hE'
                generalize (V4.setCell ⟨V0.heap.size, 0, none⟩ (.int .i64 (fx fs k).x)).setCell ⟨V0.heap.size, 1, none⟩ (.int .i64 (fx fs k).y) = V5 at *
                obtain ⟨⟨r0, r1⟩, r2, r3⟩ := P14.two
                refine wpAnyH_ready (rs := [16]) (by kernel_rfl) (by simp) ?_
                refine AllReadyH.cons rfl (fun K hK => ?_) AllReadyH.nil
                go_simp
                have hE' : Ext wr ((V5.setCell ⟨V1.heap.size, 0, none⟩ (.int .i64 (fx fs (k + 1)).x)).setCell ⟨V1.heap.size, 1, none⟩ (.int .i64 (fx fs (k + 1)).y)) := (hE.setNew (by simp; omega) _).setNew (by simp; omega) _
                refine hK.out _ _ hE' (fun hHeld => ?_)
                clear hK K r0 r1 r2 r3
                (try simp only [Act.put, Ord.a, Ord.b, Ord.c])
                replace P14 := P14.set2 (u := .int .i64 (fx fs (k + 1)).x) (v := .int .i64 (fx fs (k + 1)).y)
                replace P13 := P13.away2 (m := V1.heap.size) (i := 0) (j := 1) (u := .int .i64 (fx fs (k + 1)).x) (v := .int .i64 (fx fs (k + 1)).y) (by omega)
                replace hE := hE'
                clear hE'
                generalize (V5.setCell ⟨V1.heap.size, 0, none⟩ (.int .i64 (fx fs (k + 1)).x)).setCell ⟨V1.heap.size, 1, none⟩ (.int .i64 (fx fs (k + 1)).y) = V6 at *
                refine wpAnyH_done (by kernel_rfl) ?_ _
                go_wp2_with fail
                go_meet
                exact ⟨⟨_, rfl, P13⟩, ⟨_, rfl, P14⟩, hE⟩
        · go_simp
          have hE' : Ext wr (V0.alloc (.cells #[.int .i64 0, .int .i64 0] 25)) := hE.alloc _
          refine hK.out _ _ hE' (fun hHeld => ?_)
          clear hK K
          (try simp only [Act.put, Ord.a, Ord.b, Ord.c])
          have P14 := Box.new2 (w := V0) (x := .int .i64 0) (y := .int .i64 0) (t := 25) rfl
          have zV0 := Ext.size hE
          have yV0 : V0.heap.size < (V0.alloc (.cells #[.int .i64 0, .int .i64 0] 25)).heap.size := by simp
          replace hE := hE'
          clear hE'
          generalize V0.alloc (.cells #[.int .i64 0, .int .i64 0] 25) = V1 at *
          refine wpAnyH_ready (rs := [5, 13]) (by kernel_rfl) (by simp) ?_
          refine (AllReadyH.cons rfl (fun K hK => ?_) (AllReadyH.cons rfl (fun K hK => ?_) AllReadyH.nil))
          · go_simp
            go_at_call 144
            refine (PA1.out _).mono ?_
            rintro e V2 ⟨rfl, hy⟩
            go_wp2_with fail
            have zy := Ext.size hy
            have hE' := hE.trans hy
            refine hK.out _ _ hE' (fun hHeld => ?_)
            clear hK K
            (try simp only [Act.put, Ord.a, Ord.b, Ord.c])
            replace P14 := P14.ext hy
            replace hE := hE'
            clear hE' hy
            refine wpAnyH_ready (rs := [12, 13]) (by kernel_rfl) (by simp) ?_
            refine (AllReadyH.cons rfl (fun K hK => ?_) (AllReadyH.cons rfl (fun K hK => ?_) AllReadyH.nil))
            · go_simp
              go_at_call 144
              refine (PA2.out _).mono ?_
              rintro e V3 ⟨rfl, hy⟩
              go_wp2_with fail
              have zy := Ext.size hy
              have hE' := hE.trans hy
              refine hK.out _ _ hE' (fun hHeld => ?_)
              clear hK K
              (try simp only [Act.put, Ord.a, Ord.b, Ord.c])
              replace P14 := P14.ext hy
              replace hE := hE'
              clear hE' hy
              refine wpAnyH_ready (rs := [13]) (by kernel_rfl) (by simp) ?_
              refine (AllReadyH.cons rfl (fun K hK => ?_) AllReadyH.nil)
              · go_simp
                have hE' : Ext wr (V3.alloc (.cells #[.int .i64 0, .int .i64 0] 25)) := hE.alloc _
                refine hK.out _ _ hE' (fun hHeld => ?_)
                clear hK K
                (try simp only [Act.put, Ord.a, Ord.b, Ord.c])
                replace P14 := P14.alloc (.cells #[.int .i64 0, .int .i64 0] 25)
                have P13 := Box.new2 (w := V3) (x := .int .i64 0) (y := .int .i64 0) (t := 25) rfl
                have zV3 := Ext.size hE
                have yV3 : V3.heap.size < (V3.alloc (.cells #[.int .i64 0, .int .i64 0] 25)).heap.size := by simp
                replace hE := hE'
                clear hE'
                generalize V3.alloc (.cells #[.int .i64 0, .int .i64 0] 25) = V4 at *
                obtain ⟨⟨r0, r1⟩, r2, r3⟩ := P13.two
                refine wpAnyH_ready (rs := [15]) (by kernel_rfl) (by simp) ?_
                refine AllReadyH.cons rfl (fun K hK => ?_) AllReadyH.nil
                go_simp
                have hE' : Ext wr ((V4.setCell ⟨V3.heap.size, 0, none⟩ (.int .i64 (fx fs k).x)).setCell ⟨V3.heap.size, 1, none⟩ (.int .i64 (fx fs k).y)) := (hE.setNew (by simp; omega) _).setNew (by simp; omega) _
                refine hK.out _ _ hE' (fun hHeld => ?_)
                clear hK K r0 r1 r2 r3
                (try simp only [Act.put, Ord.a, Ord.b, Ord.c])
                replace P13 := P13.set2 (u := .int .i64 (fx fs k).x) (v := .int .i64 (fx fs k).y)
                replace P14 := P14.away2 (m := V3.heap.size) (i := 0) (j := 1) (u := .int .i64 (fx fs k).x) (v := .int .i64 (fx fs k).y) (by omega)
                replace hE := hE'
                clear hE'
                generalize (V4.setCell ⟨V3.heap.size, 0, none⟩ (.int .i64 (fx fs k).x)).setCell ⟨V3.heap.size, 1, none⟩ (.int .i64 (fx fs k).y) = V5 at *
                obtain ⟨⟨r0, r1⟩, r2, r3⟩ := P14.two
                refine wpAnyH_ready (rs := [16]) (by kernel_rfl) (by simp) ?_
                refine AllReadyH.cons rfl (fun K hK => ?_) AllReadyH.nil
                go_simp
                have hE' : Ext wr ((V5.setCell ⟨V0.heap.size, 0, none⟩ (.int .i64 (fx fs (k + 1)).x)).setCell ⟨V0.heap.size, 1, none⟩ (.int .i64 (fx fs (k + 1)).y)) := (hE.setNew (by simp; omega) _).setNew (by simp; omega) _
                refine hK.out _ _ hE' (fun hHeld => ?_)
                clear hK K r0 r1 r2 r3
                (try simp only [Act.put, Ord.a, Ord.b, Ord.c])
                replace P14 := P14.set2 (u := .int .i64 (fx fs (k + 1)).x) (v := .int .i64 (fx fs (k + 1)).y)
                replace P13 := P13.away2 (m := V0.heap.size) (i := 0) (j := 1) (u := .int .i64 (fx fs (k + 1)).x) (v := .int .i64 (fx fs (k + 1)).y) (by omega)
                replace hE := hE'
                clear hE'
                generalize (V5.setCell ⟨V0.heap.size, 0, none⟩ (.int .i64 (fx fs (k + 1)).x)).setCell ⟨V0.heap.size, 1, none⟩ (.int .i64 (fx fs (k + 1)).y) = V6 at *
                refine wpAnyH_done (by kernel_rfl) ?_ _
                go_wp2_with fail
                go_meet
                exact ⟨⟨_, rfl, P13⟩, ⟨_, rfl, P14⟩, hE⟩
            · go_simp
              have hE' : Ext wr (V2.alloc (.cells #[.int .i64 0, .int .i64 0] 25)) := hE.alloc _
              refine hK.out _ _ hE' (fun hHeld => ?_)
              clear hK K
              (try simp only [Act.put, Ord.a, Ord.b, Ord.c])
              replace P14 := P14.alloc (.cells #[.int .i64 0, .int .i64 0] 25)
              have P13 := Box.new2 (w := V2) (x := .int .i64 0) (y := .int .i64 0) (t := 25) rfl
              have zV2 := Ext.size hE
              have yV2 : V2.heap.size < (V2.alloc (.cells #[.int .i64 0, .int .i64 0] 25)).heap.size := by simp
              replace hE := hE'
              clear hE'
              generalize V2.alloc (.cells #[.int .i64 0, .int .i64 0] 25) = V3 at *
              refine wpAnyH_ready (rs := [12]) (by kernel_rfl) (by simp) ?_
              refine (AllReadyH.cons rfl (fun K hK => ?_) AllReadyH.nil)
              · go_simp
                go_at_call 144
                refine (PA2.out _).mono ?_
                rintro e V4 ⟨rfl, hy⟩
                go_wp2_with fail
                have zy := Ext.size hy
                have hE' := hE.trans hy
                refine hK.out _ _ hE' (fun hHeld => ?_)
                clear hK K
                (try simp only [Act.put, Ord.a, Ord.b, Ord.c])
                replace P14 := P14.ext hy
                replace P13 := P13.ext hy
                replace hE := hE'
                clear hE' hy
                obtain ⟨⟨r0, r1⟩, r2, r3⟩ := P13.two
                refine wpAnyH_ready (rs := [15]) (by kernel_rfl) (by simp) ?_
                refine AllReadyH.cons rfl (fun K hK => ?_) AllReadyH.nil
                go_simp
                have hE' : Ext wr ((V4.setCell ⟨V2.heap.size, 0, none⟩ (.int .i64 (fx fs k).x)).setCell ⟨V2.heap.size, 1, none⟩ (.int .i64 (fx fs k).y)) := (hE.setNew (by simp; omega) _).setNew (by simp; omega) _
                refine hK.out _ _ hE' (fun hHeld => ?_)
                clear hK K r0 r1 r2 r3
                (try simp only [Act.put, Ord.a, Ord.b, Ord.c])
                replace P13 := P13.set2 (u := .int .i64 (fx fs k).x) (v := .int .i64 (fx fs k).y)
                replace P14 := P14.away2 (m := V2.heap.size) (i := 0) (j := 1) (u := .int .i64 (fx fs k).x) (v := .int .i64 (fx fs k).y) (by omega)
                replace hE := hE'
                clear hE'
                generalize (V4.setCell ⟨V2.heap.size, 0, none⟩ (.int .i64 (fx fs k).x)).setCell ⟨V2.heap.size, 1, none⟩ (.int .i64 (fx fs k).y) = V5 at *
                obtain ⟨⟨r0, r1⟩, r2, r3⟩ := P14.two
                refine wpAnyH_ready (rs := [16]) (by kernel_rfl) (by simp) ?_
                refine AllReadyH.cons rfl (fun K hK => ?_) AllReadyH.nil
                go_simp
                have hE' : Ext wr ((V5.setCell ⟨V0.heap.size, 0, none⟩ (.int .i64 (fx fs (k + 1)).x)).setCell ⟨V0.heap.size, 1, none⟩ (.int .i64 (fx fs (k + 1)).y)) := (hE.setNew (by simp; omega) _).setNew (by simp; omega) _
                refine hK.out _ _ hE' (fun hHeld => ?_)
                clear hK K r0 r1 r2 r3
                (try simp only [Act.put, Ord.a, Ord.b, Ord.c])
                replace P14 := P14.set2 (u := .int .i64 (fx fs (k + 1)).x) (v := .int .i64 (fx fs (k + 1)).y)
                replace P13 := P13.away2 (m := V0.heap.size) (i := 0) (j := 1) (u := .int .i64 (fx fs (k + 1)).x) (v := .int .i64 (fx fs (k + 1)).y) (by omega)
                replace hE := hE'
                clear hE'
                generalize (V5.setCell ⟨V0.heap.size, 0, none⟩ (.int .i64 (fx fs (k + 1)).x)).setCell ⟨V0.heap.size, 1, none⟩ (.int .i64 (fx fs (k + 1)).y) = V6 at *
                refine wpAnyH_done (by kernel_rfl) ?_ _
                go_wp2_with fail
                go_meet
                exact ⟨⟨_, rfl, P13⟩, ⟨_, rfl, P14⟩, hE⟩
          · go_simp
            have hE' : Ext wr (V1.alloc (.cells #[.int .i64 0, .int .i64 0] 25)) := hE.alloc _
            refine hK.out _ _ hE' (fun hHeld => ?_)
            clear hK K
            (try simp only [Act.put, Ord.a, Ord.b, Ord.c])
            replace P14 := P14.alloc (.cells #[.int .i64 0, .int .i64 0] 25)
            have P13 := Box.new2 (w := V1) (x := .int .i64 0) (y := .int .i64 0) (t := 25) rfl
            have zV1 := Ext.size hE
            have yV1 : V1.heap.size < (V1.alloc (.cells #[.int .i64 0, .int .i64 0] 25)).heap.size := by simp
            replace hE := hE'
            clear hE'
            generalize V1.alloc (.cells #[.int .i64 0, .int .i64 0] 25) = V2 at *
            refine wpAnyH_ready (rs := [5]) (by kernel_rfl) (by simp) ?_
            refine (AllReadyH.cons rfl (fun K hK => ?_) AllReadyH.nil)
            · go_simp
              go_at_call 144
              refine (PA1.out _).mono ?_
              rintro e V3 ⟨rfl, hy⟩
              go_wp2_with fail
              have zy := Ext.size hy
              have hE' := hE.trans hy
              refine hK.out _ _ hE' (fun hHeld => ?_)
              clear hK K
              (try simp only [Act.put, Ord.a, Ord.b, Ord.c])
              replace P14 := P14.ext hy
              replace P13 := P13.ext hy
              replace hE := hE'
              clear hE' hy
              refine wpAnyH_ready (rs := [12]) (by kernel_rfl) (by simp) ?_
              refine (AllReadyH.cons rfl (fun K hK => ?_) AllReadyH.nil)
              · go_simp
                go_at_call 144
                refine (PA2.out _).mono ?_
                rintro e V4 ⟨rfl, hy⟩
                go_wp2_with fail
                have zy := Ext.size hy
                have hE' := hE.trans hy
                refine hK.out _ _ hE' (fun hHeld => ?_)
                clear hK K
                (try simp only [Act.put, Ord.a, Ord.b, Ord.c])
                replace P14 := P14.ext hy
                replace P13 := P13.ext hy
                replace hE := hE'
                clear hE' hy
                obtain ⟨⟨r0, r1⟩, r2, r3⟩ := P13.two
                refine wpAnyH_ready (rs := [15]) (by kernel_rfl) (by simp) ?_
                refine AllReadyH.cons rfl (fun K hK => ?_) AllReadyH.nil
                go_simp
                have hE' : Ext wr ((V4.setCell ⟨V1.heap.size, 0, none⟩ (.int .i64 (fx fs k).x)).setCell ⟨V1.heap.size, 1, none⟩ (.int .i64 (fx fs k).y)) := (hE.setNew (by simp; omega) _).setNew (by simp; omega) _
                refine hK.out _ _ hE' (fun hHeld => ?_)
                clear hK K r0 r1 r2 r3
                (try simp only [Act.put, Ord.a, Ord.b, Ord.c])
                replace P13 := P13.set2 (u := .int .i64 (fx fs k).x) (v := .int .i64 (fx fs k).y)
                replace P14 := P14.away2 (m := V1.heap.size) (i := 0) (j := 1) (u := .int .i64 (fx fs k).x) (v := .int .i64 (fx fs k).y) (by omega)
                replace hE := hE'
                clear hE'
                generalize (V4.setCell ⟨V1.heap.size, 0, none⟩ (.int .i64 (fx fs k).x)).setCell ⟨V1.heap.size, 1, none⟩ (.int .i64 (fx fs k).y) = V5 at *
                obtain ⟨⟨r0, r1⟩, r2, r3⟩ := P14.two
                refine wpAnyH_ready (rs := [16]) (by kernel_rfl) (by simp) ?_
                refine AllReadyH.cons rfl (fun K hK => ?_) AllReadyH.nil
                go_simp
                have hE' : Ext wr ((V5.setCell ⟨V0.heap.size, 0, none⟩ (.int .i64 (fx fs (k + 1)).x)).setCell ⟨V0.heap.size, 1, none⟩ (.int .i64 (fx fs (k + 1)).y)) := (hE.setNew (by simp; omega) _).setNew (by simp; omega) _
                refine hK.out _ _ hE' (fun hHeld => ?_)
                clear hK K r0 r1 r2 r3
                (try simp only [Act.put, Ord.a, Ord.b, Ord.c])
                replace P14 := P14.set2 (u := .int .i64 (fx fs (k + 1)).x) (v := .int .i64 (fx fs (k + 1)).y)
                replace P13 := P13.away2 (m := V0.heap.size) (i := 0) (j := 1) (u := .int .i64 (fx fs (k + 1)).x) (v := .int .i64 (fx fs (k + 1)).y) (by omega)
                replace hE := hE'
                clear hE'
                generalize (V5.setCell ⟨V0.heap.size, 0, none⟩ (.int .i64 (fx fs (k + 1)).x)).setCell ⟨V0.heap.size, 1, none⟩ (.int .i64 (fx fs (k + 1)).y) = V6 at *
                refine wpAnyH_done (by kernel_rfl) ?_ _
                go_wp2_with fail
                go_meet
                exact ⟨⟨_, rfl, P13⟩, ⟨_, rfl, P14⟩, hE⟩
      case rest =>
        obtain ⟨⟨B7, rfl, H7⟩, ⟨B8, rfl, H8⟩, hy⟩ := hcut
        have XC := Lib.hid (HX.out.trans hy)
        have YC := Lib.hid hy
        have ct := ET.out wc XC.out
        have l0 := EL.out wc XC.out 0 _ rfl
        have l1 := EL.out wc XC.out 1 _ rfl
        have l2 := EL.out wc XC.out 2 _ rfl
        have l3 := EL.out wc XC.out 3 _ rfl
        obtain ⟨⟨p0, p1⟩, _, _⟩ := H7.two
        obtain ⟨⟨q0, q1⟩, _, _⟩ := H8.two
        clear H7 H8 hy
        by_cases hz : lwI fs a b c d k = 0
        · have HN := Lib.hid (show wyI a b c d (fx fs k).x (fx fs k).y (fx fs (k + 1)).x (fx fs (k + 1)).y = 0 from hz)
          go_wp2_with (go_at_call 238; refine (HWY.out _).mono ?_; rintro e w3 ⟨rfl, hy⟩; rw [HN.out])
          go_roundw
          case rel => exact ⟨k + 1, by go_num, by omega, by rw [crL_same hz]; exact HO.out.ext (YC.out.trans hy), XC.out.trans hy⟩
          case measure => simp [intOf]; omega
        · obtain ⟨_, b1, b2, b3, b4⟩ := lx_bd hv hk1 hs hz
          have hm := mom_bd hv hk1 b1 b2 b3
          obtain ⟨N, hN⟩ : ∃ N, N = lxN fs a b c d k := ⟨_, rfl⟩
          obtain ⟨D, hD⟩ : ∃ D, D = lxD fs a b c d k := ⟨_, rfl⟩
          obtain ⟨G, hG⟩ : ∃ G, G = lwI fs a b c d k := ⟨_, rfl⟩
          rw [← hN] at b1 b2 hm
          rw [← hD] at b2 b3 b4 hm
          obtain ⟨M, hM⟩ : ∃ M, M = mwI fs k N D := ⟨_, rfl⟩
          obtain ⟨R, hR⟩ : ∃ R, R = mrI fs k N D := ⟨_, rfl⟩
          have hM2 : 0 ≤ M ∧ M ≤ 1000000000 := by rw [hM]; unfold mwI; omega
          have HC := Lib.hid (show legC fs a b c d k = ⟨upI M R, k, G, N, D⟩ by rw [hM, hR, hN, hD, hG]; rfl)
          have HZ := Lib.hid hz
          have hg0 : ¬ G = 0 := by rw [hG]; exact hz
          replace HWY : Hid (∀ w', Calls Tryz.prog 238 #[Sg a b c d, Pt (fx fs k).x (fx fs k).y, Pt (fx fs (k + 1)).x (fx fs (k + 1)).y] w' fun e w'' => e = .returned (.int .i64 G) ∧ Ext w' w'') := Lib.hid (by rw [hG]; exact HWY.out)
          have HPL : Hid (∀ w', Calls Tryz.prog 239 #[Sg (fx fs k).x (fx fs k).y (fx fs (k + 1)).x (fx fs (k + 1)).y, Sg a b c d] w' fun e w'' => e = .returned (.tuple #[Pt N D, .bool (plO (lA fs a b c d k) (lB fs a b c d k))]) ∧ Ext w' w'') := Lib.hid (fun w' => by
            have h := placeS_any (fx fs k).x (fx fs k).y (fx fs (k + 1)).x (fx fs (k + 1)).y a b c d w' la lb lc ld ga gb gc gd
            rw [hN, hD]; exact h)
          have HEX : Hid (∀ w', Ext w w' → Calls Tryz.prog 240 #[Tr (.slice (some ⟨bb, off, none⟩) fs.length cap), Cr 0 k G N D] w' fun e w'' => e = .returned (.tuple #[.int .i64 M, Pt R D]) ∧ Ext w' w'') := Lib.hid (fun w' h => by
            have h := exact_spec (some ⟨bb, off, none⟩) cap fs k 0 G N D w' (HF.out w' h) hk1 hv b1 b2 b3 b4
            rw [hM, hR]; exact h)
          have E1 : IntKind.i64.wrap (M + 1) = M + 1 := IntWalk.i64_in _ (by omega)
          have hlen := crL_len fs a b c d k
          have P3 := Lib.hid (show (crL fs a b c d k).length + 1 ≤ maxLen by unfold maxLen; omega)
          have P4 := Lib.hid (show ((crL fs a b c d k).length + 1) * 40 ≤ 140737488355328 by omega)
          have zW := Lib.hid (Ext.size XC.out)
          have zC := Lib.hid (Ext.size YC.out)
          clear hN hD hG hM hR b1 b2 b3 b4 hm hz
          go_wp2_with (go_at_call 238; refine (HWY.out _).mono ?_; rintro e w3 ⟨rfl, hy⟩; have Y3 := Lib.hid (YC.out.trans hy); replace ct := hy.cellOf ct; replace l0 := hy.cellOf l0; replace l1 := hy.cellOf l1; replace l2 := hy.cellOf l2; replace l3 := hy.cellOf l3; replace p0 := hy.cellOf p0; replace p1 := hy.cellOf p1; replace q0 := hy.cellOf q0; replace q1 := hy.cellOf q1; clear hy)
          refine (HPL.out _).mono ?_
          rintro e w4 ⟨rfl, hy⟩
          replace Y3 := Lib.hid (Y3.out.trans hy)
          replace ct := hy.cellOf ct
          clear hy l0 l1 l2 l3 p0 p1 q0 q1
          obtain ⟨W4, hW4⟩ : ∃ W4, W4 = (w4.alloc (.cells #[.int .i64 N, .int .i64 D] 186)).alloc (.cells #[.int .i64 0, .int .i64 k, .int .i64 G, .int .i64 N, .int .i64 D] 188) := ⟨_, rfl⟩
          have X4 := Lib.hid (show Ext w4 W4 from hW4 ▸ ((Ext.refl w4).alloc _).alloc _)
          have B4 : Box W4 (w4.heap.size + 1) [.int .i64 0, .int .i64 k, .int .i64 G, .int .i64 N, .int .i64 D] := by rw [hW4]; exact Box.new5 (by simp)
          replace ct := X4.out.cellOf ct
          have r0 : W4.cell? ⟨w4.heap.size, 0, none⟩ = some (.int .i64 N) := by rw [hW4]; exact ((Ext.refl _).alloc _).cellOf (boxed 0 rfl rfl)
          have r1 : W4.cell? ⟨w4.heap.size, 1, none⟩ = some (.int .i64 D) := by rw [hW4]; exact ((Ext.refl _).alloc _).cellOf (boxed 1 rfl rfl)
          obtain ⟨⟨d0, d1, d2, d3, d4⟩, _⟩ := B4.five
          go_upto_region 10 with fail
          rw [← hW4]
          clear hW4
          go_wp2_with fail
          refine (HEX.out _ (HW.out.trans (HX.out.trans (Y3.out.trans X4.out)))).mono ?_
          rintro e w5 ⟨rfl, hy⟩
          replace B4 := (B4.ext hy).alloc (.cells #[.int .i64 R, .int .i64 D] 186)
          have X5 := Lib.hid ((Y3.out.trans (X4.out.trans hy)).alloc (.cells #[.int .i64 R, .int .i64 D] 186))
          have s0 : (w5.alloc (.cells #[.int .i64 R, .int .i64 D] 186)).cell? ⟨w5.heap.size, 0, none⟩ = some (.int .i64 R) := boxed 0 rfl rfl
          have z4 : wr.heap.size ≤ w4.heap.size := Ext.size Y3.out
          have n5 : w4.heap.size + 1 ≠ w5.heap.size := by
            have h1 := hy.size
            have h2 := (X4.out).size
            have h3 := B4.lt
            simp at h3
            have h4 : w4.heap.size + 1 < W4.heap.size := World.block_lt_of_cell? W4 _ d0
            omega
          clear hy r0 r1 d0 d1 d2 d3 d4 ct
          obtain ⟨⟨d0, d1, d2, d3, d4⟩, f0, f1, f2, f3, f4⟩ := B4.five
          by_cases h0 : 0 < R
          · have HU : upI M R = M + 1 := if_pos h0
            have XA := Lib.hid (HX.out.trans ((((X5.out.setNew (p := ⟨w4.heap.size + 1, 0, none⟩) (by simp; omega) (.int .i64 M)).setNew (p := ⟨w4.heap.size + 1, 0, none⟩) (by simp; omega) (.int .i64 (M + 1))) : Ext wr _).alloc (.cells #[.int .i64 (M + 1), .int .i64 k, .int .i64 G, .int .i64 N, .int .i64 D] 188)))
            have OA := row_ext HO.out ((((X5.out.setNew (p := ⟨w4.heap.size + 1, 0, none⟩) (by simp; omega) (.int .i64 M)).setNew (p := ⟨w4.heap.size + 1, 0, none⟩) (by simp; omega) (.int .i64 (M + 1))) : Ext wr _).alloc (.cells #[.int .i64 (M + 1), .int .i64 k, .int .i64 G, .int .i64 N, .int .i64 D] 188))
            have CC := Lib.hid (lit5_at (n := w5.heap.size + 1) (w := (((w5.alloc (.cells #[.int .i64 R, .int .i64 D] 186)).setCell ⟨w4.heap.size + 1, 0, none⟩ (.int .i64 M)).setCell ⟨w4.heap.size + 1, 0, none⟩ (.int .i64 (M + 1)))) (a := .int .i64 (M + 1)) (b := .int .i64 k) (c := .int .i64 G) (d := .int .i64 N) (e := .int .i64 D) (t := 188) (by simp))
            have P1 := Lib.hid (ones5 ⟨(M + 1), k, G, N, D⟩)
            have zA := Lib.hid (Ext.size XA.out)
            go_wp2_with (at_builtin; refine wpList_append_own _ rfl _ _ 263 rfl W0.heap.size 188 ti (Cr 0 0 0 0 0) 5 40 Tryz.underlying263 hin hz0 hz1 hz2 rfl (by decide) _ (crL fs a b c d k).length _ rfl OA ⟨w5.heap.size + 1, 0, none⟩ 1 1 [.int .i64 (M + 1), .int .i64 k, .int .i64 G, .int .i64 N, .int .i64 D] rfl rfl CC.out P1.out P3.out P4.out zA.out ?_; intro v1 w6 hown hgrow hnil; have O6 := Lib.hid (show OwnC w6 W0.heap.size v1 (crL fs a b c d (k + 1)) by rw [crL_more HZ.out, HC.out, HU]; unfold OwnC; rw [← cellsC_app, List.length_append]; exact hown); have X6 := Lib.hid (row_grown (w0 := W0) OA hgrow (Nat.le_refl _) XA.out); clear hown hgrow hnil OA)
            go_roundw
            case rel => exact ⟨k + 1, by go_num, by omega, O6.out, X6.out⟩
            case measure => simp [intOf]; omega
          · have HU : upI M R = M := if_neg h0
            have XA := Lib.hid (HX.out.trans (((X5.out.setNew (p := ⟨w4.heap.size + 1, 0, none⟩) (by simp; omega) (.int .i64 M)) : Ext wr _).alloc (.cells #[.int .i64 M, .int .i64 k, .int .i64 G, .int .i64 N, .int .i64 D] 188)))
            have OA := row_ext HO.out (((X5.out.setNew (p := ⟨w4.heap.size + 1, 0, none⟩) (by simp; omega) (.int .i64 M)) : Ext wr _).alloc (.cells #[.int .i64 M, .int .i64 k, .int .i64 G, .int .i64 N, .int .i64 D] 188))
            have CC := Lib.hid (lit5_at (n := w5.heap.size + 1) (w := ((w5.alloc (.cells #[.int .i64 R, .int .i64 D] 186)).setCell ⟨w4.heap.size + 1, 0, none⟩ (.int .i64 M))) (a := .int .i64 M) (b := .int .i64 k) (c := .int .i64 G) (d := .int .i64 N) (e := .int .i64 D) (t := 188) (by simp))
            have P1 := Lib.hid (ones5 ⟨M, k, G, N, D⟩)
            have zA := Lib.hid (Ext.size XA.out)
            go_wp2_with (at_builtin; refine wpList_append_own _ rfl _ _ 263 rfl W0.heap.size 188 ti (Cr 0 0 0 0 0) 5 40 Tryz.underlying263 hin hz0 hz1 hz2 rfl (by decide) _ (crL fs a b c d k).length _ rfl OA ⟨w5.heap.size + 1, 0, none⟩ 1 1 [.int .i64 M, .int .i64 k, .int .i64 G, .int .i64 N, .int .i64 D] rfl rfl CC.out P1.out P3.out P4.out zA.out ?_; intro v1 w6 hown hgrow hnil; have O6 := Lib.hid (show OwnC w6 W0.heap.size v1 (crL fs a b c d (k + 1)) by rw [crL_more HZ.out, HC.out, HU]; unfold OwnC; rw [← cellsC_app, List.length_append]; exact hown); have X6 := Lib.hid (row_grown (w0 := W0) OA hgrow (Nat.le_refl _) XA.out); clear hown hgrow hnil OA)
            go_roundw
            case rel => exact ⟨k + 1, by go_num, by omega, O6.out, X6.out⟩
            case measure => simp [intOf]; omega
    · obtain rfl : k = fs.length - 1 := by omega
      go_wp2
      go_ret
      exact ⟨_, rfl, HO.out.mono (Ext.size HW.out), HW.out.trans HX.out⟩
end Go.Proofs.YtmlojndkpnhalaaGreat.Rwk
