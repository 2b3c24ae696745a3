/- FnExactRoomBetween: for every wind, mark and pair of hulls, impl.RoomBetween and spec.RoomBetween answer the same room, with the same code. No condition. -/
import Derived.Test.YtcangdcakgcpaaaRm3
import Derived.Test.YtcangdcakgcpaaaHulL
import Derived.Test.YtcangdcakgcpaaaOpnH
import Derived.Test.YtcangdcakgcpaaaOpnM
import Derived.Test.YtcangdcakgcpaaaRmx
import Derived.Test.YtcangdcakgcpaaaClo
import Derived.ChangeOld
import Derived.Below
import Derived.Deep.DeepCutAuto
import Derived.Lib.SmallJoins
namespace Go.Proofs.Ytcangdcakgcpaaa.fnExactRoomBetween
open Go.ChangeShapes Go.WideShapes Go.ChangeAt Go.RowKit
open Go.Proofs.Ytcangdcakgcpaaa.Kit Go.Proofs.Ytcangdcakgcpaaa.Pts Go.Proofs.Ytcangdcakgcpaaa.Wnd Go.Proofs.Ytcangdcakgcpaaa.Hul Go.Proofs.Ytcangdcakgcpaaa.Seg Go.Proofs.Ytcangdcakgcpaaa.Rom
open Go.Proofs.Ytcangdcakgcpaaa.Crs (MkV szMark_any toMark_any)
set_option linter.unusedVariables false
set_option linter.unusedSimpArgs false

set_option maxRecDepth 100000 in
set_option maxHeartbeats 8000000 in
theorem walk (x y : Int) (N : ByteArray) (X Y S Z a b c d n p q u v m : Int) (w : World) (hN : N.size ≤ maxLen) : Calls Try.prog 11 #[Pt x y, MkV N X Y S Z, Hv a b c d n, Hv p q u v m] w fun e w' => e = .returned (.bool true) ∧ Ext w w' := by
  have PS := Lib.hid (fun w => roomBetween_spec x y N X Y S Z a b c d n p q u v m w)
  have PI := Lib.hid (fun w => roomBetween_impl x y N X Y S Z a b c d n p q u v m w)
  have PZ := Lib.hid (fun w => szMark_any N X Y S Z 1048576 w hN (by omega) (by omega))
  have PW := Lib.hid (fun w => toWind_any x y w)
  have PM := Lib.hid (fun w => toMark_any N X Y S Z w)
  have PA := Lib.hid (fun w => toHull_any a b c d n w)
  have PB := Lib.hid (fun w => toHull_any p q u v m w)
  generalize rbG x y X Y a b c d n p q u v m = G at *
  generalize rbR x y X Y a b c d n p q u v m = Q at *
  generalize rbC x y X Y a b c d n p q u v m = C at *
  obtain ⟨W0, hW0⟩ : ∃ W0, W0 = (((w.alloc (.cells #[.int .i64 x, .int .i64 y] 57)).alloc (.cells #[.string N, .int .i64 X, .int .i64 Y, .int .i64 S, .int .i64 Z] 81)).alloc (.cells #[.int .i64 a, .int .i64 b, .int .i64 c, .int .i64 d, .int .i64 n] 60)).alloc (.cells #[.int .i64 p, .int .i64 q, .int .i64 u, .int .i64 v, .int .i64 m] 60) := ⟨_, rfl⟩
  have hX : Ext w W0 := hW0 ▸ (((((Ext.refl w).alloc _).alloc _).alloc _).alloc _)
  have hs0 : W0.heap.size = w.heap.size + 1 + 1 + 1 + 1 := by rw [hW0]; simp
  have e00 : ∀ w', (Ext W0) w' → w'.cell? ⟨w.heap.size, 0, none⟩ = some (.int .i64 x) := fun w' h => h.cellOf (by rw [hW0]; exact ((((Ext.refl _).alloc _).alloc _).alloc _).cellOf (boxed 0 rfl (by simp)))
  have e01 : ∀ w', (Ext W0) w' → w'.cell? ⟨w.heap.size, 1, none⟩ = some (.int .i64 y) := fun w' h => h.cellOf (by rw [hW0]; exact ((((Ext.refl _).alloc _).alloc _).alloc _).cellOf (boxed 1 rfl (by simp)))
  have e10 : ∀ w', (Ext W0) w' → w'.cell? ⟨w.heap.size + 1, 0, none⟩ = some (.string N) := fun w' h => h.cellOf (by rw [hW0]; exact (((Ext.refl _).alloc _).alloc _).cellOf (boxed 0 rfl (by simp)))
  have e11 : ∀ w', (Ext W0) w' → w'.cell? ⟨w.heap.size + 1, 1, none⟩ = some (.int .i64 X) := fun w' h => h.cellOf (by rw [hW0]; exact (((Ext.refl _).alloc _).alloc _).cellOf (boxed 1 rfl (by simp)))
  have e12 : ∀ w', (Ext W0) w' → w'.cell? ⟨w.heap.size + 1, 2, none⟩ = some (.int .i64 Y) := fun w' h => h.cellOf (by rw [hW0]; exact (((Ext.refl _).alloc _).alloc _).cellOf (boxed 2 rfl (by simp)))
  have e13 : ∀ w', (Ext W0) w' → w'.cell? ⟨w.heap.size + 1, 3, none⟩ = some (.int .i64 S) := fun w' h => h.cellOf (by rw [hW0]; exact (((Ext.refl _).alloc _).alloc _).cellOf (boxed 3 rfl (by simp)))
  have e14 : ∀ w', (Ext W0) w' → w'.cell? ⟨w.heap.size + 1, 4, none⟩ = some (.int .i64 Z) := fun w' h => h.cellOf (by rw [hW0]; exact (((Ext.refl _).alloc _).alloc _).cellOf (boxed 4 rfl (by simp)))
  have e20 : ∀ w', (Ext W0) w' → w'.cell? ⟨w.heap.size + 1 + 1, 0, none⟩ = some (.int .i64 a) := fun w' h => h.cellOf (by rw [hW0]; exact ((Ext.refl _).alloc _).cellOf (boxed 0 rfl (by simp)))
  have e21 : ∀ w', (Ext W0) w' → w'.cell? ⟨w.heap.size + 1 + 1, 1, none⟩ = some (.int .i64 b) := fun w' h => h.cellOf (by rw [hW0]; exact ((Ext.refl _).alloc _).cellOf (boxed 1 rfl (by simp)))
  have e22 : ∀ w', (Ext W0) w' → w'.cell? ⟨w.heap.size + 1 + 1, 2, none⟩ = some (.int .i64 c) := fun w' h => h.cellOf (by rw [hW0]; exact ((Ext.refl _).alloc _).cellOf (boxed 2 rfl (by simp)))
  have e23 : ∀ w', (Ext W0) w' → w'.cell? ⟨w.heap.size + 1 + 1, 3, none⟩ = some (.int .i64 d) := fun w' h => h.cellOf (by rw [hW0]; exact ((Ext.refl _).alloc _).cellOf (boxed 3 rfl (by simp)))
  have e24 : ∀ w', (Ext W0) w' → w'.cell? ⟨w.heap.size + 1 + 1, 4, none⟩ = some (.int .i64 n) := fun w' h => h.cellOf (by rw [hW0]; exact ((Ext.refl _).alloc _).cellOf (boxed 4 rfl (by simp)))
  have e30 : ∀ w', (Ext W0) w' → w'.cell? ⟨w.heap.size + 1 + 1 + 1, 0, none⟩ = some (.int .i64 p) := fun w' h => h.cellOf (by rw [hW0]; exact boxed 0 rfl (by simp))
  have e31 : ∀ w', (Ext W0) w' → w'.cell? ⟨w.heap.size + 1 + 1 + 1, 1, none⟩ = some (.int .i64 q) := fun w' h => h.cellOf (by rw [hW0]; exact boxed 1 rfl (by simp))
  have e32 : ∀ w', (Ext W0) w' → w'.cell? ⟨w.heap.size + 1 + 1 + 1, 2, none⟩ = some (.int .i64 u) := fun w' h => h.cellOf (by rw [hW0]; exact boxed 2 rfl (by simp))
  have e33 : ∀ w', (Ext W0) w' → w'.cell? ⟨w.heap.size + 1 + 1 + 1, 3, none⟩ = some (.int .i64 v) := fun w' h => h.cellOf (by rw [hW0]; exact boxed 3 rfl (by simp))
  have e34 : ∀ w', (Ext W0) w' → w'.cell? ⟨w.heap.size + 1 + 1 + 1, 4, none⟩ = some (.int .i64 m) := fun w' h => h.cellOf (by rw [hW0]; exact boxed 4 rfl (by simp))
  by_cases hb : (1048576 : Int) - N.size < 0
  · rw [if_pos hb] at PZ
    go_enter Try.func11, Try.ntmps11
    go_wp2_with fail
    rw [← hW0]
    clear hW0
    refine (PZ.out _).mono ?_
    rintro e w1 ⟨rfl, hz⟩
    go_wp2
    go_ret
    exact ⟨rfl, hX.trans hz⟩
  rw [if_neg hb] at PZ
  have hb1 : ¬ ((1048576 : Int) - N.size < 0) := hb
  generalize (1048576 : Int) - N.size = L at *
  clear hb
  go_enter Try.func11, Try.ntmps11
  go_wp2_with fail
  rw [← hW0]
  clear hW0
  refine (PZ.out _).mono ?_
  rintro e w1 ⟨rfl, hz⟩
  replace hz : Ext W0 w1 := hz
  replace e00 : ∀ w', Ext w1 w' → w'.cell? ⟨w.heap.size, 0, none⟩ = some (.int .i64 x) := fun w' h => e00 w' (hz.trans h)
  replace e01 : ∀ w', Ext w1 w' → w'.cell? ⟨w.heap.size, 1, none⟩ = some (.int .i64 y) := fun w' h => e01 w' (hz.trans h)
  replace e10 : ∀ w', Ext w1 w' → w'.cell? ⟨w.heap.size + 1, 0, none⟩ = some (.string N) := fun w' h => e10 w' (hz.trans h)
  replace e11 : ∀ w', Ext w1 w' → w'.cell? ⟨w.heap.size + 1, 1, none⟩ = some (.int .i64 X) := fun w' h => e11 w' (hz.trans h)
  replace e12 : ∀ w', Ext w1 w' → w'.cell? ⟨w.heap.size + 1, 2, none⟩ = some (.int .i64 Y) := fun w' h => e12 w' (hz.trans h)
  replace e13 : ∀ w', Ext w1 w' → w'.cell? ⟨w.heap.size + 1, 3, none⟩ = some (.int .i64 S) := fun w' h => e13 w' (hz.trans h)
  replace e14 : ∀ w', Ext w1 w' → w'.cell? ⟨w.heap.size + 1, 4, none⟩ = some (.int .i64 Z) := fun w' h => e14 w' (hz.trans h)
  replace e20 : ∀ w', Ext w1 w' → w'.cell? ⟨w.heap.size + 1 + 1, 0, none⟩ = some (.int .i64 a) := fun w' h => e20 w' (hz.trans h)
  replace e21 : ∀ w', Ext w1 w' → w'.cell? ⟨w.heap.size + 1 + 1, 1, none⟩ = some (.int .i64 b) := fun w' h => e21 w' (hz.trans h)
  replace e22 : ∀ w', Ext w1 w' → w'.cell? ⟨w.heap.size + 1 + 1, 2, none⟩ = some (.int .i64 c) := fun w' h => e22 w' (hz.trans h)
  replace e23 : ∀ w', Ext w1 w' → w'.cell? ⟨w.heap.size + 1 + 1, 3, none⟩ = some (.int .i64 d) := fun w' h => e23 w' (hz.trans h)
  replace e24 : ∀ w', Ext w1 w' → w'.cell? ⟨w.heap.size + 1 + 1, 4, none⟩ = some (.int .i64 n) := fun w' h => e24 w' (hz.trans h)
  replace e30 : ∀ w', Ext w1 w' → w'.cell? ⟨w.heap.size + 1 + 1 + 1, 0, none⟩ = some (.int .i64 p) := fun w' h => e30 w' (hz.trans h)
  replace e31 : ∀ w', Ext w1 w' → w'.cell? ⟨w.heap.size + 1 + 1 + 1, 1, none⟩ = some (.int .i64 q) := fun w' h => e31 w' (hz.trans h)
  replace e32 : ∀ w', Ext w1 w' → w'.cell? ⟨w.heap.size + 1 + 1 + 1, 2, none⟩ = some (.int .i64 u) := fun w' h => e32 w' (hz.trans h)
  replace e33 : ∀ w', Ext w1 w' → w'.cell? ⟨w.heap.size + 1 + 1 + 1, 3, none⟩ = some (.int .i64 v) := fun w' h => e33 w' (hz.trans h)
  replace e34 : ∀ w', Ext w1 w' → w'.cell? ⟨w.heap.size + 1 + 1 + 1, 4, none⟩ = some (.int .i64 m) := fun w' h => e34 w' (hz.trans h)
  go_upto_region 5 with fail
  go_cut [10, 11] (fun s1 s2 wx => (∃ B, s1 = .pointer (some ⟨B, 0, none⟩) ∧ Box wx B [.int .i64 G, .int .i64 Q]) ∧ s2 = .int .i64 C ∧ Ext w1 wx)
  case first =>
    refine wp_region_held_drew (S := fun w' => Ext w1 w') (by kernel_rfl) (by (try dsimp only); exact Ext.drew (Ext.refl w1)) (fun hHeld => ?_)
    have hE : Ext w1 w1.drew := Ext.drew (Ext.refl w1)
    obtain ⟨V0, hV0⟩ : ∃ V0, V0 = w1.drew := ⟨_, rfl⟩
    rw [← hV0] at hE hHeld ⊢
    clear hV0
    refine Ord.K 0 20 ?_; refine Ord.K 2 22 ?_; refine Ord.K 4 24 ?_; refine Ord.K 6 26 ?_
    refine wpAnyH_ready (rs := [1, 12]) (by kernel_rfl) (by simp) ?_
    refine (AllReadyH.cons rfl (fun K hK => ?_) (AllReadyH.cons rfl (fun K hK => ?_) AllReadyH.nil))
    · go_simp
      go_at_call 27
      refine (PW.out _).mono ?_
      rintro e V1 ⟨rfl, hy⟩
      go_wp2_with fail
      have zy := Ext.size hy
      have hE' := hE.trans hy
      refine hK.out _ _ hE' (fun hHeld => ?_)
      clear hK K
      (try simp only [Act.put, Ord.a, Ord.b, Ord.c])
      replace hE := hE'
      clear hE' hy
      refine wpAnyH_ready (rs := [3, 12]) (by kernel_rfl) (by simp) ?_
      refine (AllReadyH.cons rfl (fun K hK => ?_) (AllReadyH.cons rfl (fun K hK => ?_) AllReadyH.nil))
      · go_simp
        go_at_call 43
        refine (PM.out _).mono ?_
        rintro e V2 ⟨rfl, hy⟩
        go_wp2_with fail
        have zy := Ext.size hy
        have hE' := hE.trans hy
        refine hK.out _ _ hE' (fun hHeld => ?_)
        clear hK K
        (try simp only [Act.put, Ord.a, Ord.b, Ord.c])
        replace hE := hE'
        clear hE' hy
        refine wpAnyH_ready (rs := [5, 12]) (by kernel_rfl) (by simp) ?_
        refine (AllReadyH.cons rfl (fun K hK => ?_) (AllReadyH.cons rfl (fun K hK => ?_) AllReadyH.nil))
        · go_simp
          go_at_call 28
          refine (PA.out _).mono ?_
          rintro e V3 ⟨rfl, hy⟩
          go_wp2_with fail
          have zy := Ext.size hy
          have hE' := hE.trans hy
          refine hK.out _ _ hE' (fun hHeld => ?_)
          clear hK K
          (try simp only [Act.put, Ord.a, Ord.b, Ord.c])
          replace hE := hE'
          clear hE' hy
          refine wpAnyH_ready (rs := [7, 12]) (by kernel_rfl) (by simp) ?_
          refine (AllReadyH.cons rfl (fun K hK => ?_) (AllReadyH.cons rfl (fun K hK => ?_) AllReadyH.nil))
          · go_simp
            go_at_call 28
            refine (PB.out _).mono ?_
            rintro e V4 ⟨rfl, hy⟩
            go_wp2_with fail
            have zy := Ext.size hy
            have hE' := hE.trans hy
            refine hK.out _ _ hE' (fun hHeld => ?_)
            clear hK K
            (try simp only [Act.put, Ord.a, Ord.b, Ord.c])
            replace hE := hE'
            clear hE' hy
            refine wpAnyH_ready (rs := [8, 12]) (by kernel_rfl) (by simp) ?_
            refine (AllReadyH.cons rfl (fun K hK => ?_) (AllReadyH.cons rfl (fun K hK => ?_) AllReadyH.nil))
            · go_simp
              go_at_call 21
              refine (PS.out _).mono ?_
              rintro e V5 ⟨rfl, hy⟩
              go_wp2_with fail
              have zy := Ext.size hy
              have hE' := hE.trans hy
              refine hK.out _ _ hE' (fun hHeld => ?_)
              clear hK K
              (try simp only [Act.put, Ord.a, Ord.b, Ord.c])
              replace hE := hE'
              clear hE' hy
              refine Ord.K 9 19 ?_; refine Ord.K 10 29 ?_; refine Ord.K 11 30 ?_
              refine wpAnyH_ready (rs := [12]) (by kernel_rfl) (by simp) ?_
              refine (AllReadyH.cons rfl (fun K hK => ?_) AllReadyH.nil)
              go_simp
              have hy : Ext V5 (V5.alloc (.cells #[.int .i64 0, .int .i64 0] 49)) := (Ext.refl V5).alloc _
              have hE' := hE.trans hy
              refine hK.out _ _ hE' (fun hHeld => ?_)
              clear hK K
              (try simp only [Act.put, Ord.a, Ord.b, Ord.c])
              have P12 : Box (V5.alloc (.cells #[.int .i64 0, .int .i64 0] 49)) V5.heap.size [.int .i64 0, .int .i64 0] := Box.new (vs := [.int .i64 0, .int .i64 0]) rfl
              have z12 := Ext.size hE
              have y12 : V5.heap.size < (V5.alloc (.cells #[.int .i64 0, .int .i64 0] 49)).heap.size := by simp
              replace hE := hE'
              clear hE' hy
              generalize V5.alloc (.cells #[.int .i64 0, .int .i64 0] 49) = V6 at *
              refine wpAnyH_ready (rs := [13]) (by kernel_rfl) (by simp) ?_
              refine (AllReadyH.cons rfl (fun K hK => ?_) AllReadyH.nil)
              obtain ⟨⟨r0, r1⟩, r2, r3⟩ := P12.two
              go_simp
              have hE' : Ext w1 ((V6.setCell ⟨V5.heap.size, 0, none⟩ (.int .i64 G)).setCell ⟨V5.heap.size, 1, none⟩ (.int .i64 Q)) := ((hE.setNew (by first | omega | (simp; omega) | simp) _).setNew (by first | omega | (simp; omega) | simp) _)
              refine hK.out _ _ hE' (fun hHeld => ?_)
              clear hK K r0 r1 r2 r3
              (try simp only [Act.put, Ord.a, Ord.b, Ord.c])
              replace P12 := P12.set2 (u := .int .i64 G) (v := .int .i64 Q)
              replace hE := hE'
              clear hE'
              generalize ((V6.setCell ⟨V5.heap.size, 0, none⟩ (.int .i64 G)).setCell ⟨V5.heap.size, 1, none⟩ (.int .i64 Q)) = V7 at *
              refine Ord.K 14 11 ?_
              refine wpAnyH_done (by kernel_rfl) ?_ _
              go_wp2_with fail; go_meet; exact ⟨⟨_, rfl, P12⟩, rfl, hE⟩
            · go_simp
              have hy : Ext V4 (V4.alloc (.cells #[.int .i64 0, .int .i64 0] 49)) := (Ext.refl V4).alloc _
              have hE' := hE.trans hy
              refine hK.out _ _ hE' (fun hHeld => ?_)
              clear hK K
              (try simp only [Act.put, Ord.a, Ord.b, Ord.c])
              have P12 : Box (V4.alloc (.cells #[.int .i64 0, .int .i64 0] 49)) V4.heap.size [.int .i64 0, .int .i64 0] := Box.new (vs := [.int .i64 0, .int .i64 0]) rfl
              have z12 := Ext.size hE
              have y12 : V4.heap.size < (V4.alloc (.cells #[.int .i64 0, .int .i64 0] 49)).heap.size := by simp
              replace hE := hE'
              clear hE' hy
              generalize V4.alloc (.cells #[.int .i64 0, .int .i64 0] 49) = V5 at *
              refine wpAnyH_ready (rs := [8]) (by kernel_rfl) (by simp) ?_
              refine (AllReadyH.cons rfl (fun K hK => ?_) AllReadyH.nil)
              go_simp
              go_at_call 21
              refine (PS.out _).mono ?_
              rintro e V6 ⟨rfl, hy⟩
              go_wp2_with fail
              have zy := Ext.size hy
              have hE' := hE.trans hy
              refine hK.out _ _ hE' (fun hHeld => ?_)
              clear hK K
              (try simp only [Act.put, Ord.a, Ord.b, Ord.c])
              replace P12 := P12.ext hy
              replace hE := hE'
              clear hE' hy
              refine Ord.K 9 19 ?_; refine Ord.K 10 29 ?_; refine Ord.K 11 30 ?_
              refine wpAnyH_ready (rs := [13]) (by kernel_rfl) (by simp) ?_
              refine (AllReadyH.cons rfl (fun K hK => ?_) AllReadyH.nil)
              obtain ⟨⟨r0, r1⟩, r2, r3⟩ := P12.two
              go_simp
              have hE' : Ext w1 ((V6.setCell ⟨V4.heap.size, 0, none⟩ (.int .i64 G)).setCell ⟨V4.heap.size, 1, none⟩ (.int .i64 Q)) := ((hE.setNew (by first | omega | (simp; omega) | simp) _).setNew (by first | omega | (simp; omega) | simp) _)
              refine hK.out _ _ hE' (fun hHeld => ?_)
              clear hK K r0 r1 r2 r3
              (try simp only [Act.put, Ord.a, Ord.b, Ord.c])
              replace P12 := P12.set2 (u := .int .i64 G) (v := .int .i64 Q)
              replace hE := hE'
              clear hE'
              generalize ((V6.setCell ⟨V4.heap.size, 0, none⟩ (.int .i64 G)).setCell ⟨V4.heap.size, 1, none⟩ (.int .i64 Q)) = V7 at *
              refine Ord.K 14 11 ?_
              refine wpAnyH_done (by kernel_rfl) ?_ _
              go_wp2_with fail; go_meet; exact ⟨⟨_, rfl, P12⟩, rfl, hE⟩
          · go_simp
            have hy : Ext V3 (V3.alloc (.cells #[.int .i64 0, .int .i64 0] 49)) := (Ext.refl V3).alloc _
            have hE' := hE.trans hy
            refine hK.out _ _ hE' (fun hHeld => ?_)
            clear hK K
            (try simp only [Act.put, Ord.a, Ord.b, Ord.c])
            have P12 : Box (V3.alloc (.cells #[.int .i64 0, .int .i64 0] 49)) V3.heap.size [.int .i64 0, .int .i64 0] := Box.new (vs := [.int .i64 0, .int .i64 0]) rfl
            have z12 := Ext.size hE
            have y12 : V3.heap.size < (V3.alloc (.cells #[.int .i64 0, .int .i64 0] 49)).heap.size := by simp
            replace hE := hE'
            clear hE' hy
            generalize V3.alloc (.cells #[.int .i64 0, .int .i64 0] 49) = V4 at *
            refine wpAnyH_ready (rs := [7]) (by kernel_rfl) (by simp) ?_
            refine (AllReadyH.cons rfl (fun K hK => ?_) AllReadyH.nil)
            go_simp
            go_at_call 28
            refine (PB.out _).mono ?_
            rintro e V5 ⟨rfl, hy⟩
            go_wp2_with fail
            have zy := Ext.size hy
            have hE' := hE.trans hy
            refine hK.out _ _ hE' (fun hHeld => ?_)
            clear hK K
            (try simp only [Act.put, Ord.a, Ord.b, Ord.c])
            replace P12 := P12.ext hy
            replace hE := hE'
            clear hE' hy
            refine wpAnyH_ready (rs := [8]) (by kernel_rfl) (by simp) ?_
            refine (AllReadyH.cons rfl (fun K hK => ?_) AllReadyH.nil)
            go_simp
            go_at_call 21
            refine (PS.out _).mono ?_
            rintro e V6 ⟨rfl, hy⟩
            go_wp2_with fail
            have zy := Ext.size hy
            have hE' := hE.trans hy
            refine hK.out _ _ hE' (fun hHeld => ?_)
            clear hK K
            (try simp only [Act.put, Ord.a, Ord.b, Ord.c])
            replace P12 := P12.ext hy
            replace hE := hE'
            clear hE' hy
            refine Ord.K 9 19 ?_; refine Ord.K 10 29 ?_; refine Ord.K 11 30 ?_
            refine wpAnyH_ready (rs := [13]) (by kernel_rfl) (by simp) ?_
            refine (AllReadyH.cons rfl (fun K hK => ?_) AllReadyH.nil)
            obtain ⟨⟨r0, r1⟩, r2, r3⟩ := P12.two
            go_simp
            have hE' : Ext w1 ((V6.setCell ⟨V3.heap.size, 0, none⟩ (.int .i64 G)).setCell ⟨V3.heap.size, 1, none⟩ (.int .i64 Q)) := ((hE.setNew (by first | omega | (simp; omega) | simp) _).setNew (by first | omega | (simp; omega) | simp) _)
            refine hK.out _ _ hE' (fun hHeld => ?_)
            clear hK K r0 r1 r2 r3
            (try simp only [Act.put, Ord.a, Ord.b, Ord.c])
            replace P12 := P12.set2 (u := .int .i64 G) (v := .int .i64 Q)
            replace hE := hE'
            clear hE'
            generalize ((V6.setCell ⟨V3.heap.size, 0, none⟩ (.int .i64 G)).setCell ⟨V3.heap.size, 1, none⟩ (.int .i64 Q)) = V7 at *
            refine Ord.K 14 11 ?_
            refine wpAnyH_done (by kernel_rfl) ?_ _
            go_wp2_with fail; go_meet; exact ⟨⟨_, rfl, P12⟩, rfl, hE⟩
        · go_simp
          have hy : Ext V2 (V2.alloc (.cells #[.int .i64 0, .int .i64 0] 49)) := (Ext.refl V2).alloc _
          have hE' := hE.trans hy
          refine hK.out _ _ hE' (fun hHeld => ?_)
          clear hK K
          (try simp only [Act.put, Ord.a, Ord.b, Ord.c])
          have P12 : Box (V2.alloc (.cells #[.int .i64 0, .int .i64 0] 49)) V2.heap.size [.int .i64 0, .int .i64 0] := Box.new (vs := [.int .i64 0, .int .i64 0]) rfl
          have z12 := Ext.size hE
          have y12 : V2.heap.size < (V2.alloc (.cells #[.int .i64 0, .int .i64 0] 49)).heap.size := by simp
          replace hE := hE'
          clear hE' hy
          generalize V2.alloc (.cells #[.int .i64 0, .int .i64 0] 49) = V3 at *
          refine wpAnyH_ready (rs := [5]) (by kernel_rfl) (by simp) ?_
          refine (AllReadyH.cons rfl (fun K hK => ?_) AllReadyH.nil)
          go_simp
          go_at_call 28
          refine (PA.out _).mono ?_
          rintro e V4 ⟨rfl, hy⟩
          go_wp2_with fail
          have zy := Ext.size hy
          have hE' := hE.trans hy
          refine hK.out _ _ hE' (fun hHeld => ?_)
          clear hK K
          (try simp only [Act.put, Ord.a, Ord.b, Ord.c])
          replace P12 := P12.ext hy
          replace hE := hE'
          clear hE' hy
          refine wpAnyH_ready (rs := [7]) (by kernel_rfl) (by simp) ?_
          refine (AllReadyH.cons rfl (fun K hK => ?_) AllReadyH.nil)
          go_simp
          go_at_call 28
          refine (PB.out _).mono ?_
          rintro e V5 ⟨rfl, hy⟩
          go_wp2_with fail
          have zy := Ext.size hy
          have hE' := hE.trans hy
          refine hK.out _ _ hE' (fun hHeld => ?_)
          clear hK K
          (try simp only [Act.put, Ord.a, Ord.b, Ord.c])
          replace P12 := P12.ext hy
          replace hE := hE'
          clear hE' hy
          refine wpAnyH_ready (rs := [8]) (by kernel_rfl) (by simp) ?_
          refine (AllReadyH.cons rfl (fun K hK => ?_) AllReadyH.nil)
          go_simp
          go_at_call 21
          refine (PS.out _).mono ?_
          rintro e V6 ⟨rfl, hy⟩
          go_wp2_with fail
          have zy := Ext.size hy
          have hE' := hE.trans hy
          refine hK.out _ _ hE' (fun hHeld => ?_)
          clear hK K
          (try simp only [Act.put, Ord.a, Ord.b, Ord.c])
          replace P12 := P12.ext hy
          replace hE := hE'
          clear hE' hy
          refine Ord.K 9 19 ?_; refine Ord.K 10 29 ?_; refine Ord.K 11 30 ?_
          refine wpAnyH_ready (rs := [13]) (by kernel_rfl) (by simp) ?_
          refine (AllReadyH.cons rfl (fun K hK => ?_) AllReadyH.nil)
          obtain ⟨⟨r0, r1⟩, r2, r3⟩ := P12.two
          go_simp
          have hE' : Ext w1 ((V6.setCell ⟨V2.heap.size, 0, none⟩ (.int .i64 G)).setCell ⟨V2.heap.size, 1, none⟩ (.int .i64 Q)) := ((hE.setNew (by first | omega | (simp; omega) | simp) _).setNew (by first | omega | (simp; omega) | simp) _)
          refine hK.out _ _ hE' (fun hHeld => ?_)
          clear hK K r0 r1 r2 r3
          (try simp only [Act.put, Ord.a, Ord.b, Ord.c])
          replace P12 := P12.set2 (u := .int .i64 G) (v := .int .i64 Q)
          replace hE := hE'
          clear hE'
          generalize ((V6.setCell ⟨V2.heap.size, 0, none⟩ (.int .i64 G)).setCell ⟨V2.heap.size, 1, none⟩ (.int .i64 Q)) = V7 at *
          refine Ord.K 14 11 ?_
          refine wpAnyH_done (by kernel_rfl) ?_ _
          go_wp2_with fail; go_meet; exact ⟨⟨_, rfl, P12⟩, rfl, hE⟩
      · go_simp
        have hy : Ext V1 (V1.alloc (.cells #[.int .i64 0, .int .i64 0] 49)) := (Ext.refl V1).alloc _
        have hE' := hE.trans hy
        refine hK.out _ _ hE' (fun hHeld => ?_)
        clear hK K
        (try simp only [Act.put, Ord.a, Ord.b, Ord.c])
        have P12 : Box (V1.alloc (.cells #[.int .i64 0, .int .i64 0] 49)) V1.heap.size [.int .i64 0, .int .i64 0] := Box.new (vs := [.int .i64 0, .int .i64 0]) rfl
        have z12 := Ext.size hE
        have y12 : V1.heap.size < (V1.alloc (.cells #[.int .i64 0, .int .i64 0] 49)).heap.size := by simp
        replace hE := hE'
        clear hE' hy
        generalize V1.alloc (.cells #[.int .i64 0, .int .i64 0] 49) = V2 at *
        refine wpAnyH_ready (rs := [3]) (by kernel_rfl) (by simp) ?_
        refine (AllReadyH.cons rfl (fun K hK => ?_) AllReadyH.nil)
        go_simp
        go_at_call 43
        refine (PM.out _).mono ?_
        rintro e V3 ⟨rfl, hy⟩
        go_wp2_with fail
        have zy := Ext.size hy
        have hE' := hE.trans hy
        refine hK.out _ _ hE' (fun hHeld => ?_)
        clear hK K
        (try simp only [Act.put, Ord.a, Ord.b, Ord.c])
        replace P12 := P12.ext hy
        replace hE := hE'
        clear hE' hy
        refine wpAnyH_ready (rs := [5]) (by kernel_rfl) (by simp) ?_
        refine (AllReadyH.cons rfl (fun K hK => ?_) AllReadyH.nil)
        go_simp
        go_at_call 28
        refine (PA.out _).mono ?_
        rintro e V4 ⟨rfl, hy⟩
        go_wp2_with fail
        have zy := Ext.size hy
        have hE' := hE.trans hy
        refine hK.out _ _ hE' (fun hHeld => ?_)
        clear hK K
        (try simp only [Act.put, Ord.a, Ord.b, Ord.c])
        replace P12 := P12.ext hy
        replace hE := hE'
        clear hE' hy
        refine wpAnyH_ready (rs := [7]) (by kernel_rfl) (by simp) ?_
        refine (AllReadyH.cons rfl (fun K hK => ?_) AllReadyH.nil)
        go_simp
        go_at_call 28
        refine (PB.out _).mono ?_
        rintro e V5 ⟨rfl, hy⟩
        go_wp2_with fail
        have zy := Ext.size hy
        have hE' := hE.trans hy
        refine hK.out _ _ hE' (fun hHeld => ?_)
        clear hK K
        (try simp only [Act.put, Ord.a, Ord.b, Ord.c])
        replace P12 := P12.ext hy
        replace hE := hE'
        clear hE' hy
        refine wpAnyH_ready (rs := [8]) (by kernel_rfl) (by simp) ?_
        refine (AllReadyH.cons rfl (fun K hK => ?_) AllReadyH.nil)
        go_simp
        go_at_call 21
        refine (PS.out _).mono ?_
        rintro e V6 ⟨rfl, hy⟩
        go_wp2_with fail
        have zy := Ext.size hy
        have hE' := hE.trans hy
        refine hK.out _ _ hE' (fun hHeld => ?_)
        clear hK K
        (try simp only [Act.put, Ord.a, Ord.b, Ord.c])
        replace P12 := P12.ext hy
        replace hE := hE'
        clear hE' hy
        refine Ord.K 9 19 ?_; refine Ord.K 10 29 ?_; refine Ord.K 11 30 ?_
        refine wpAnyH_ready (rs := [13]) (by kernel_rfl) (by simp) ?_
        refine (AllReadyH.cons rfl (fun K hK => ?_) AllReadyH.nil)
        obtain ⟨⟨r0, r1⟩, r2, r3⟩ := P12.two
        go_simp
        have hE' : Ext w1 ((V6.setCell ⟨V1.heap.size, 0, none⟩ (.int .i64 G)).setCell ⟨V1.heap.size, 1, none⟩ (.int .i64 Q)) := ((hE.setNew (by first | omega | (simp; omega) | simp) _).setNew (by first | omega | (simp; omega) | simp) _)
        refine hK.out _ _ hE' (fun hHeld => ?_)
        clear hK K r0 r1 r2 r3
        (try simp only [Act.put, Ord.a, Ord.b, Ord.c])
        replace P12 := P12.set2 (u := .int .i64 G) (v := .int .i64 Q)
        replace hE := hE'
        clear hE'
        generalize ((V6.setCell ⟨V1.heap.size, 0, none⟩ (.int .i64 G)).setCell ⟨V1.heap.size, 1, none⟩ (.int .i64 Q)) = V7 at *
        refine Ord.K 14 11 ?_
        refine wpAnyH_done (by kernel_rfl) ?_ _
        go_wp2_with fail; go_meet; exact ⟨⟨_, rfl, P12⟩, rfl, hE⟩
    · go_simp
      have hy : Ext V0 (V0.alloc (.cells #[.int .i64 0, .int .i64 0] 49)) := (Ext.refl V0).alloc _
      have hE' := hE.trans hy
      refine hK.out _ _ hE' (fun hHeld => ?_)
      clear hK K
      (try simp only [Act.put, Ord.a, Ord.b, Ord.c])
      have P12 : Box (V0.alloc (.cells #[.int .i64 0, .int .i64 0] 49)) V0.heap.size [.int .i64 0, .int .i64 0] := Box.new (vs := [.int .i64 0, .int .i64 0]) rfl
      have z12 := Ext.size hE
      have y12 : V0.heap.size < (V0.alloc (.cells #[.int .i64 0, .int .i64 0] 49)).heap.size := by simp
      replace hE := hE'
      clear hE' hy
      generalize V0.alloc (.cells #[.int .i64 0, .int .i64 0] 49) = V1 at *
      refine wpAnyH_ready (rs := [1]) (by kernel_rfl) (by simp) ?_
      refine (AllReadyH.cons rfl (fun K hK => ?_) AllReadyH.nil)
      go_simp
      go_at_call 27
      refine (PW.out _).mono ?_
      rintro e V2 ⟨rfl, hy⟩
      go_wp2_with fail
      have zy := Ext.size hy
      have hE' := hE.trans hy
      refine hK.out _ _ hE' (fun hHeld => ?_)
      clear hK K
      (try simp only [Act.put, Ord.a, Ord.b, Ord.c])
      replace P12 := P12.ext hy
      replace hE := hE'
      clear hE' hy
      refine wpAnyH_ready (rs := [3]) (by kernel_rfl) (by simp) ?_
      refine (AllReadyH.cons rfl (fun K hK => ?_) AllReadyH.nil)
      go_simp
      go_at_call 43
      refine (PM.out _).mono ?_
      rintro e V3 ⟨rfl, hy⟩
      go_wp2_with fail
      have zy := Ext.size hy
      have hE' := hE.trans hy
      refine hK.out _ _ hE' (fun hHeld => ?_)
      clear hK K
      (try simp only [Act.put, Ord.a, Ord.b, Ord.c])
      replace P12 := P12.ext hy
      replace hE := hE'
      clear hE' hy
      refine wpAnyH_ready (rs := [5]) (by kernel_rfl) (by simp) ?_
      refine (AllReadyH.cons rfl (fun K hK => ?_) AllReadyH.nil)
      go_simp
      go_at_call 28
      refine (PA.out _).mono ?_
      rintro e V4 ⟨rfl, hy⟩
      go_wp2_with fail
      have zy := Ext.size hy
      have hE' := hE.trans hy
      refine hK.out _ _ hE' (fun hHeld => ?_)
      clear hK K
      (try simp only [Act.put, Ord.a, Ord.b, Ord.c])
      replace P12 := P12.ext hy
      replace hE := hE'
      clear hE' hy
      refine wpAnyH_ready (rs := [7]) (by kernel_rfl) (by simp) ?_
      refine (AllReadyH.cons rfl (fun K hK => ?_) AllReadyH.nil)
      go_simp
      go_at_call 28
      refine (PB.out _).mono ?_
      rintro e V5 ⟨rfl, hy⟩
      go_wp2_with fail
      have zy := Ext.size hy
      have hE' := hE.trans hy
      refine hK.out _ _ hE' (fun hHeld => ?_)
      clear hK K
      (try simp only [Act.put, Ord.a, Ord.b, Ord.c])
      replace P12 := P12.ext hy
      replace hE := hE'
      clear hE' hy
      refine wpAnyH_ready (rs := [8]) (by kernel_rfl) (by simp) ?_
      refine (AllReadyH.cons rfl (fun K hK => ?_) AllReadyH.nil)
      go_simp
      go_at_call 21
      refine (PS.out _).mono ?_
      rintro e V6 ⟨rfl, hy⟩
      go_wp2_with fail
      have zy := Ext.size hy
      have hE' := hE.trans hy
      refine hK.out _ _ hE' (fun hHeld => ?_)
      clear hK K
      (try simp only [Act.put, Ord.a, Ord.b, Ord.c])
      replace P12 := P12.ext hy
      replace hE := hE'
      clear hE' hy
      refine Ord.K 9 19 ?_; refine Ord.K 10 29 ?_; refine Ord.K 11 30 ?_
      refine wpAnyH_ready (rs := [13]) (by kernel_rfl) (by simp) ?_
      refine (AllReadyH.cons rfl (fun K hK => ?_) AllReadyH.nil)
      obtain ⟨⟨r0, r1⟩, r2, r3⟩ := P12.two
      go_simp
      have hE' : Ext w1 ((V6.setCell ⟨V0.heap.size, 0, none⟩ (.int .i64 G)).setCell ⟨V0.heap.size, 1, none⟩ (.int .i64 Q)) := ((hE.setNew (by first | omega | (simp; omega) | simp) _).setNew (by first | omega | (simp; omega) | simp) _)
      refine hK.out _ _ hE' (fun hHeld => ?_)
      clear hK K r0 r1 r2 r3
      (try simp only [Act.put, Ord.a, Ord.b, Ord.c])
      replace P12 := P12.set2 (u := .int .i64 G) (v := .int .i64 Q)
      replace hE := hE'
      clear hE'
      generalize ((V6.setCell ⟨V0.heap.size, 0, none⟩ (.int .i64 G)).setCell ⟨V0.heap.size, 1, none⟩ (.int .i64 Q)) = V7 at *
      refine Ord.K 14 11 ?_
      refine wpAnyH_done (by kernel_rfl) ?_ _
      go_wp2_with fail; go_meet; exact ⟨⟨_, rfl, P12⟩, rfl, hE⟩
  case rest =>
    obtain ⟨⟨B1, rfl, Q1⟩, rfl, X1⟩ := hcut
    rename World => w2
    have HQ1 := Lib.hid Q1
    clear Q1
    replace e00 : ∀ w', Ext w2 w' → w'.cell? ⟨w.heap.size, 0, none⟩ = some (.int .i64 x) := fun w' h => e00 w' (X1.trans h)
    replace e01 : ∀ w', Ext w2 w' → w'.cell? ⟨w.heap.size, 1, none⟩ = some (.int .i64 y) := fun w' h => e01 w' (X1.trans h)
    replace e10 : ∀ w', Ext w2 w' → w'.cell? ⟨w.heap.size + 1, 0, none⟩ = some (.string N) := fun w' h => e10 w' (X1.trans h)
    replace e11 : ∀ w', Ext w2 w' → w'.cell? ⟨w.heap.size + 1, 1, none⟩ = some (.int .i64 X) := fun w' h => e11 w' (X1.trans h)
    replace e12 : ∀ w', Ext w2 w' → w'.cell? ⟨w.heap.size + 1, 2, none⟩ = some (.int .i64 Y) := fun w' h => e12 w' (X1.trans h)
    replace e13 : ∀ w', Ext w2 w' → w'.cell? ⟨w.heap.size + 1, 3, none⟩ = some (.int .i64 S) := fun w' h => e13 w' (X1.trans h)
    replace e14 : ∀ w', Ext w2 w' → w'.cell? ⟨w.heap.size + 1, 4, none⟩ = some (.int .i64 Z) := fun w' h => e14 w' (X1.trans h)
    replace e20 : ∀ w', Ext w2 w' → w'.cell? ⟨w.heap.size + 1 + 1, 0, none⟩ = some (.int .i64 a) := fun w' h => e20 w' (X1.trans h)
    replace e21 : ∀ w', Ext w2 w' → w'.cell? ⟨w.heap.size + 1 + 1, 1, none⟩ = some (.int .i64 b) := fun w' h => e21 w' (X1.trans h)
    replace e22 : ∀ w', Ext w2 w' → w'.cell? ⟨w.heap.size + 1 + 1, 2, none⟩ = some (.int .i64 c) := fun w' h => e22 w' (X1.trans h)
    replace e23 : ∀ w', Ext w2 w' → w'.cell? ⟨w.heap.size + 1 + 1, 3, none⟩ = some (.int .i64 d) := fun w' h => e23 w' (X1.trans h)
    replace e24 : ∀ w', Ext w2 w' → w'.cell? ⟨w.heap.size + 1 + 1, 4, none⟩ = some (.int .i64 n) := fun w' h => e24 w' (X1.trans h)
    replace e30 : ∀ w', Ext w2 w' → w'.cell? ⟨w.heap.size + 1 + 1 + 1, 0, none⟩ = some (.int .i64 p) := fun w' h => e30 w' (X1.trans h)
    replace e31 : ∀ w', Ext w2 w' → w'.cell? ⟨w.heap.size + 1 + 1 + 1, 1, none⟩ = some (.int .i64 q) := fun w' h => e31 w' (X1.trans h)
    replace e32 : ∀ w', Ext w2 w' → w'.cell? ⟨w.heap.size + 1 + 1 + 1, 2, none⟩ = some (.int .i64 u) := fun w' h => e32 w' (X1.trans h)
    replace e33 : ∀ w', Ext w2 w' → w'.cell? ⟨w.heap.size + 1 + 1 + 1, 3, none⟩ = some (.int .i64 v) := fun w' h => e33 w' (X1.trans h)
    replace e34 : ∀ w', Ext w2 w' → w'.cell? ⟨w.heap.size + 1 + 1 + 1, 4, none⟩ = some (.int .i64 m) := fun w' h => e34 w' (X1.trans h)
    go_upto_region 6 with fail
    go_cut [12, 13] (fun s1 s2 wx => (∃ B, s1 = .pointer (some ⟨B, 0, none⟩) ∧ Box wx B [.int .i64 G, .int .i64 Q]) ∧ s2 = .int .i64 C ∧ Ext w2 wx)
    case first =>
      refine wp_region_held_drew (S := fun w' => Ext w2 w') (by kernel_rfl) (by (try dsimp only); exact Ext.drew (Ext.refl w2)) (fun hHeld => ?_)
      have hE : Ext w2 w2.drew := Ext.drew (Ext.refl w2)
      obtain ⟨V0, hV0⟩ : ∃ V0, V0 = w2.drew := ⟨_, rfl⟩
      rw [← hV0] at hE hHeld ⊢
      clear hV0
      refine Ord.K 0 32 ?_; refine Ord.K 2 34 ?_; refine Ord.K 4 36 ?_; refine Ord.K 6 38 ?_
      refine wpAnyH_ready (rs := [1, 12]) (by kernel_rfl) (by simp) ?_
      refine (AllReadyH.cons rfl (fun K hK => ?_) (AllReadyH.cons rfl (fun K hK => ?_) AllReadyH.nil))
      · go_simp
        go_at_call 27
        refine (PW.out _).mono ?_
        rintro e V1 ⟨rfl, hy⟩
        go_wp2_with fail
        have zy := Ext.size hy
        have hE' := hE.trans hy
        refine hK.out _ _ hE' (fun hHeld => ?_)
        clear hK K
        (try simp only [Act.put, Ord.a, Ord.b, Ord.c])
        replace hE := hE'
        clear hE' hy
        refine wpAnyH_ready (rs := [3, 12]) (by kernel_rfl) (by simp) ?_
        refine (AllReadyH.cons rfl (fun K hK => ?_) (AllReadyH.cons rfl (fun K hK => ?_) AllReadyH.nil))
        · go_simp
          go_at_call 43
          refine (PM.out _).mono ?_
          rintro e V2 ⟨rfl, hy⟩
          go_wp2_with fail
          have zy := Ext.size hy
          have hE' := hE.trans hy
          refine hK.out _ _ hE' (fun hHeld => ?_)
          clear hK K
          (try simp only [Act.put, Ord.a, Ord.b, Ord.c])
          replace hE := hE'
          clear hE' hy
          refine wpAnyH_ready (rs := [5, 12]) (by kernel_rfl) (by simp) ?_
          refine (AllReadyH.cons rfl (fun K hK => ?_) (AllReadyH.cons rfl (fun K hK => ?_) AllReadyH.nil))
          · go_simp
            go_at_call 28
            refine (PA.out _).mono ?_
            rintro e V3 ⟨rfl, hy⟩
            go_wp2_with fail
            have zy := Ext.size hy
            have hE' := hE.trans hy
            refine hK.out _ _ hE' (fun hHeld => ?_)
            clear hK K
            (try simp only [Act.put, Ord.a, Ord.b, Ord.c])
            replace hE := hE'
            clear hE' hy
            refine wpAnyH_ready (rs := [7, 12]) (by kernel_rfl) (by simp) ?_
            refine (AllReadyH.cons rfl (fun K hK => ?_) (AllReadyH.cons rfl (fun K hK => ?_) AllReadyH.nil))
            · go_simp
              go_at_call 28
              refine (PB.out _).mono ?_
              rintro e V4 ⟨rfl, hy⟩
              go_wp2_with fail
              have zy := Ext.size hy
              have hE' := hE.trans hy
              refine hK.out _ _ hE' (fun hHeld => ?_)
              clear hK K
              (try simp only [Act.put, Ord.a, Ord.b, Ord.c])
              replace hE := hE'
              clear hE' hy
              refine wpAnyH_ready (rs := [8, 12]) (by kernel_rfl) (by simp) ?_
              refine (AllReadyH.cons rfl (fun K hK => ?_) (AllReadyH.cons rfl (fun K hK => ?_) AllReadyH.nil))
              · go_simp
                go_at_call 20
                refine (PI.out _).mono ?_
                rintro e V5 ⟨rfl, hy⟩
                go_wp2_with fail
                have zy := Ext.size hy
                have hE' := hE.trans hy
                refine hK.out _ _ hE' (fun hHeld => ?_)
                clear hK K
                (try simp only [Act.put, Ord.a, Ord.b, Ord.c])
                replace hE := hE'
                clear hE' hy
                refine Ord.K 9 31 ?_; refine Ord.K 10 41 ?_; refine Ord.K 11 42 ?_
                refine wpAnyH_ready (rs := [12]) (by kernel_rfl) (by simp) ?_
                refine (AllReadyH.cons rfl (fun K hK => ?_) AllReadyH.nil)
                go_simp
                have hy : Ext V5 (V5.alloc (.cells #[.int .i64 0, .int .i64 0] 49)) := (Ext.refl V5).alloc _
                have hE' := hE.trans hy
                refine hK.out _ _ hE' (fun hHeld => ?_)
                clear hK K
                (try simp only [Act.put, Ord.a, Ord.b, Ord.c])
                have P12 : Box (V5.alloc (.cells #[.int .i64 0, .int .i64 0] 49)) V5.heap.size [.int .i64 0, .int .i64 0] := Box.new (vs := [.int .i64 0, .int .i64 0]) rfl
                have z12 := Ext.size hE
                have y12 : V5.heap.size < (V5.alloc (.cells #[.int .i64 0, .int .i64 0] 49)).heap.size := by simp
                replace hE := hE'
                clear hE' hy
                generalize V5.alloc (.cells #[.int .i64 0, .int .i64 0] 49) = V6 at *
                refine wpAnyH_ready (rs := [13]) (by kernel_rfl) (by simp) ?_
                refine (AllReadyH.cons rfl (fun K hK => ?_) AllReadyH.nil)
                obtain ⟨⟨r0, r1⟩, r2, r3⟩ := P12.two
                go_simp
                have hE' : Ext w2 ((V6.setCell ⟨V5.heap.size, 0, none⟩ (.int .i64 G)).setCell ⟨V5.heap.size, 1, none⟩ (.int .i64 Q)) := ((hE.setNew (by first | omega | (simp; omega) | simp) _).setNew (by first | omega | (simp; omega) | simp) _)
                refine hK.out _ _ hE' (fun hHeld => ?_)
                clear hK K r0 r1 r2 r3
                (try simp only [Act.put, Ord.a, Ord.b, Ord.c])
                replace P12 := P12.set2 (u := .int .i64 G) (v := .int .i64 Q)
                replace hE := hE'
                clear hE'
                generalize ((V6.setCell ⟨V5.heap.size, 0, none⟩ (.int .i64 G)).setCell ⟨V5.heap.size, 1, none⟩ (.int .i64 Q)) = V7 at *
                refine Ord.K 14 13 ?_
                refine wpAnyH_done (by kernel_rfl) ?_ _
                go_wp2_with fail; go_meet; exact ⟨⟨_, rfl, P12⟩, rfl, hE⟩
              · go_simp
                have hy : Ext V4 (V4.alloc (.cells #[.int .i64 0, .int .i64 0] 49)) := (Ext.refl V4).alloc _
                have hE' := hE.trans hy
                refine hK.out _ _ hE' (fun hHeld => ?_)
                clear hK K
                (try simp only [Act.put, Ord.a, Ord.b, Ord.c])
                have P12 : Box (V4.alloc (.cells #[.int .i64 0, .int .i64 0] 49)) V4.heap.size [.int .i64 0, .int .i64 0] := Box.new (vs := [.int .i64 0, .int .i64 0]) rfl
                have z12 := Ext.size hE
                have y12 : V4.heap.size < (V4.alloc (.cells #[.int .i64 0, .int .i64 0] 49)).heap.size := by simp
                replace hE := hE'
                clear hE' hy
                generalize V4.alloc (.cells #[.int .i64 0, .int .i64 0] 49) = V5 at *
                refine wpAnyH_ready (rs := [8]) (by kernel_rfl) (by simp) ?_
                refine (AllReadyH.cons rfl (fun K hK => ?_) AllReadyH.nil)
                go_simp
                go_at_call 20
                refine (PI.out _).mono ?_
                rintro e V6 ⟨rfl, hy⟩
                go_wp2_with fail
                have zy := Ext.size hy
                have hE' := hE.trans hy
                refine hK.out _ _ hE' (fun hHeld => ?_)
                clear hK K
                (try simp only [Act.put, Ord.a, Ord.b, Ord.c])
                replace P12 := P12.ext hy
                replace hE := hE'
                clear hE' hy
                refine Ord.K 9 31 ?_; refine Ord.K 10 41 ?_; refine Ord.K 11 42 ?_
                refine wpAnyH_ready (rs := [13]) (by kernel_rfl) (by simp) ?_
                refine (AllReadyH.cons rfl (fun K hK => ?_) AllReadyH.nil)
                obtain ⟨⟨r0, r1⟩, r2, r3⟩ := P12.two
                go_simp
                have hE' : Ext w2 ((V6.setCell ⟨V4.heap.size, 0, none⟩ (.int .i64 G)).setCell ⟨V4.heap.size, 1, none⟩ (.int .i64 Q)) := ((hE.setNew (by first | omega | (simp; omega) | simp) _).setNew (by first | omega | (simp; omega) | simp) _)
                refine hK.out _ _ hE' (fun hHeld => ?_)
                clear hK K r0 r1 r2 r3
                (try simp only [Act.put, Ord.a, Ord.b, Ord.c])
                replace P12 := P12.set2 (u := .int .i64 G) (v := .int .i64 Q)
                replace hE := hE'
                clear hE'
                generalize ((V6.setCell ⟨V4.heap.size, 0, none⟩ (.int .i64 G)).setCell ⟨V4.heap.size, 1, none⟩ (.int .i64 Q)) = V7 at *
                refine Ord.K 14 13 ?_
                refine wpAnyH_done (by kernel_rfl) ?_ _
                go_wp2_with fail; go_meet; exact ⟨⟨_, rfl, P12⟩, rfl, hE⟩
            · go_simp
              have hy : Ext V3 (V3.alloc (.cells #[.int .i64 0, .int .i64 0] 49)) := (Ext.refl V3).alloc _
              have hE' := hE.trans hy
              refine hK.out _ _ hE' (fun hHeld => ?_)
              clear hK K
              (try simp only [Act.put, Ord.a, Ord.b, Ord.c])
              have P12 : Box (V3.alloc (.cells #[.int .i64 0, .int .i64 0] 49)) V3.heap.size [.int .i64 0, .int .i64 0] := Box.new (vs := [.int .i64 0, .int .i64 0]) rfl
              have z12 := Ext.size hE
              have y12 : V3.heap.size < (V3.alloc (.cells #[.int .i64 0, .int .i64 0] 49)).heap.size := by simp
              replace hE := hE'
              clear hE' hy
              generalize V3.alloc (.cells #[.int .i64 0, .int .i64 0] 49) = V4 at *
              refine wpAnyH_ready (rs := [7]) (by kernel_rfl) (by simp) ?_
              refine (AllReadyH.cons rfl (fun K hK => ?_) AllReadyH.nil)
              go_simp
              go_at_call 28
              refine (PB.out _).mono ?_
              rintro e V5 ⟨rfl, hy⟩
              go_wp2_with fail
              have zy := Ext.size hy
              have hE' := hE.trans hy
              refine hK.out _ _ hE' (fun hHeld => ?_)
              clear hK K
              (try simp only [Act.put, Ord.a, Ord.b, Ord.c])
              replace P12 := P12.ext hy
              replace hE := hE'
              clear hE' hy
              refine wpAnyH_ready (rs := [8]) (by kernel_rfl) (by simp) ?_
              refine (AllReadyH.cons rfl (fun K hK => ?_) AllReadyH.nil)
              go_simp
              go_at_call 20
              refine (PI.out _).mono ?_
              rintro e V6 ⟨rfl, hy⟩
              go_wp2_with fail
              have zy := Ext.size hy
              have hE' := hE.trans hy
              refine hK.out _ _ hE' (fun hHeld => ?_)
              clear hK K
              (try simp only [Act.put, Ord.a, Ord.b, Ord.c])
              replace P12 := P12.ext hy
              replace hE := hE'
              clear hE' hy
              refine Ord.K 9 31 ?_; refine Ord.K 10 41 ?_; refine Ord.K 11 42 ?_
              refine wpAnyH_ready (rs := [13]) (by kernel_rfl) (by simp) ?_
              refine (AllReadyH.cons rfl (fun K hK => ?_) AllReadyH.nil)
              obtain ⟨⟨r0, r1⟩, r2, r3⟩ := P12.two
              go_simp
              have hE' : Ext w2 ((V6.setCell ⟨V3.heap.size, 0, none⟩ (.int .i64 G)).setCell ⟨V3.heap.size, 1, none⟩ (.int .i64 Q)) := ((hE.setNew (by first | omega | (simp; omega) | simp) _).setNew (by first | omega | (simp; omega) | simp) _)
              refine hK.out _ _ hE' (fun hHeld => ?_)
              clear hK K r0 r1 r2 r3
              (try simp only [Act.put, Ord.a, Ord.b, Ord.c])
              replace P12 := P12.set2 (u := .int .i64 G) (v := .int .i64 Q)
              replace hE := hE'
              clear hE'
              generalize ((V6.setCell ⟨V3.heap.size, 0, none⟩ (.int .i64 G)).setCell ⟨V3.heap.size, 1, none⟩ (.int .i64 Q)) = V7 at *
              refine Ord.K 14 13 ?_
              refine wpAnyH_done (by kernel_rfl) ?_ _
              go_wp2_with fail; go_meet; exact ⟨⟨_, rfl, P12⟩, rfl, hE⟩
          · go_simp
            have hy : Ext V2 (V2.alloc (.cells #[.int .i64 0, .int .i64 0] 49)) := (Ext.refl V2).alloc _
            have hE' := hE.trans hy
            refine hK.out _ _ hE' (fun hHeld => ?_)
            clear hK K
            (try simp only [Act.put, Ord.a, Ord.b, Ord.c])
            have P12 : Box (V2.alloc (.cells #[.int .i64 0, .int .i64 0] 49)) V2.heap.size [.int .i64 0, .int .i64 0] := Box.new (vs := [.int .i64 0, .int .i64 0]) rfl
            have z12 := Ext.size hE
            have y12 : V2.heap.size < (V2.alloc (.cells #[.int .i64 0, .int .i64 0] 49)).heap.size := by simp
            replace hE := hE'
            clear hE' hy
            generalize V2.alloc (.cells #[.int .i64 0, .int .i64 0] 49) = V3 at *
            refine wpAnyH_ready (rs := [5]) (by kernel_rfl) (by simp) ?_
            refine (AllReadyH.cons rfl (fun K hK => ?_) AllReadyH.nil)
            go_simp
            go_at_call 28
            refine (PA.out _).mono ?_
            rintro e V4 ⟨rfl, hy⟩
            go_wp2_with fail
            have zy := Ext.size hy
            have hE' := hE.trans hy
            refine hK.out _ _ hE' (fun hHeld => ?_)
            clear hK K
            (try simp only [Act.put, Ord.a, Ord.b, Ord.c])
            replace P12 := P12.ext hy
            replace hE := hE'
            clear hE' hy
            refine wpAnyH_ready (rs := [7]) (by kernel_rfl) (by simp) ?_
            refine (AllReadyH.cons rfl (fun K hK => ?_) AllReadyH.nil)
            go_simp
            go_at_call 28
            refine (PB.out _).mono ?_
            rintro e V5 ⟨rfl, hy⟩
            go_wp2_with fail
            have zy := Ext.size hy
            have hE' := hE.trans hy
            refine hK.out _ _ hE' (fun hHeld => ?_)
            clear hK K
            (try simp only [Act.put, Ord.a, Ord.b, Ord.c])
            replace P12 := P12.ext hy
            replace hE := hE'
            clear hE' hy
            refine wpAnyH_ready (rs := [8]) (by kernel_rfl) (by simp) ?_
            refine (AllReadyH.cons rfl (fun K hK => ?_) AllReadyH.nil)
            go_simp
            go_at_call 20
            refine (PI.out _).mono ?_
            rintro e V6 ⟨rfl, hy⟩
            go_wp2_with fail
            have zy := Ext.size hy
            have hE' := hE.trans hy
            refine hK.out _ _ hE' (fun hHeld => ?_)
            clear hK K
            (try simp only [Act.put, Ord.a, Ord.b, Ord.c])
            replace P12 := P12.ext hy
            replace hE := hE'
            clear hE' hy
            refine Ord.K 9 31 ?_; refine Ord.K 10 41 ?_; refine Ord.K 11 42 ?_
            refine wpAnyH_ready (rs := [13]) (by kernel_rfl) (by simp) ?_
            refine (AllReadyH.cons rfl (fun K hK => ?_) AllReadyH.nil)
            obtain ⟨⟨r0, r1⟩, r2, r3⟩ := P12.two
            go_simp
            have hE' : Ext w2 ((V6.setCell ⟨V2.heap.size, 0, none⟩ (.int .i64 G)).setCell ⟨V2.heap.size, 1, none⟩ (.int .i64 Q)) := ((hE.setNew (by first | omega | (simp; omega) | simp) _).setNew (by first | omega | (simp; omega) | simp) _)
            refine hK.out _ _ hE' (fun hHeld => ?_)
            clear hK K r0 r1 r2 r3
            (try simp only [Act.put, Ord.a, Ord.b, Ord.c])
            replace P12 := P12.set2 (u := .int .i64 G) (v := .int .i64 Q)
            replace hE := hE'
            clear hE'
            generalize ((V6.setCell ⟨V2.heap.size, 0, none⟩ (.int .i64 G)).setCell ⟨V2.heap.size, 1, none⟩ (.int .i64 Q)) = V7 at *
            refine Ord.K 14 13 ?_
            refine wpAnyH_done (by kernel_rfl) ?_ _
            go_wp2_with fail; go_meet; exact ⟨⟨_, rfl, P12⟩, rfl, hE⟩
        · go_simp
          have hy : Ext V1 (V1.alloc (.cells #[.int .i64 0, .int .i64 0] 49)) := (Ext.refl V1).alloc _
          have hE' := hE.trans hy
          refine hK.out _ _ hE' (fun hHeld => ?_)
          clear hK K
          (try simp only [Act.put, Ord.a, Ord.b, Ord.c])
          have P12 : Box (V1.alloc (.cells #[.int .i64 0, .int .i64 0] 49)) V1.heap.size [.int .i64 0, .int .i64 0] := Box.new (vs := [.int .i64 0, .int .i64 0]) rfl
          have z12 := Ext.size hE
          have y12 : V1.heap.size < (V1.alloc (.cells #[.int .i64 0, .int .i64 0] 49)).heap.size := by simp
          replace hE := hE'
          clear hE' hy
          generalize V1.alloc (.cells #[.int .i64 0, .int .i64 0] 49) = V2 at *
          refine wpAnyH_ready (rs := [3]) (by kernel_rfl) (by simp) ?_
          refine (AllReadyH.cons rfl (fun K hK => ?_) AllReadyH.nil)
          go_simp
          go_at_call 43
          refine (PM.out _).mono ?_
          rintro e V3 ⟨rfl, hy⟩
          go_wp2_with fail
          have zy := Ext.size hy
          have hE' := hE.trans hy
          refine hK.out _ _ hE' (fun hHeld => ?_)
          clear hK K
          (try simp only [Act.put, Ord.a, Ord.b, Ord.c])
          replace P12 := P12.ext hy
          replace hE := hE'
          clear hE' hy
          refine wpAnyH_ready (rs := [5]) (by kernel_rfl) (by simp) ?_
          refine (AllReadyH.cons rfl (fun K hK => ?_) AllReadyH.nil)
          go_simp
          go_at_call 28
          refine (PA.out _).mono ?_
          rintro e V4 ⟨rfl, hy⟩
          go_wp2_with fail
          have zy := Ext.size hy
          have hE' := hE.trans hy
          refine hK.out _ _ hE' (fun hHeld => ?_)
          clear hK K
          (try simp only [Act.put, Ord.a, Ord.b, Ord.c])
          replace P12 := P12.ext hy
          replace hE := hE'
          clear hE' hy
          refine wpAnyH_ready (rs := [7]) (by kernel_rfl) (by simp) ?_
          refine (AllReadyH.cons rfl (fun K hK => ?_) AllReadyH.nil)
          go_simp
          go_at_call 28
          refine (PB.out _).mono ?_
          rintro e V5 ⟨rfl, hy⟩
          go_wp2_with fail
          have zy := Ext.size hy
          have hE' := hE.trans hy
          refine hK.out _ _ hE' (fun hHeld => ?_)
          clear hK K
          (try simp only [Act.put, Ord.a, Ord.b, Ord.c])
          replace P12 := P12.ext hy
          replace hE := hE'
          clear hE' hy
          refine wpAnyH_ready (rs := [8]) (by kernel_rfl) (by simp) ?_
          refine (AllReadyH.cons rfl (fun K hK => ?_) AllReadyH.nil)
          go_simp
          go_at_call 20
          refine (PI.out _).mono ?_
          rintro e V6 ⟨rfl, hy⟩
          go_wp2_with fail
          have zy := Ext.size hy
          have hE' := hE.trans hy
          refine hK.out _ _ hE' (fun hHeld => ?_)
          clear hK K
          (try simp only [Act.put, Ord.a, Ord.b, Ord.c])
          replace P12 := P12.ext hy
          replace hE := hE'
          clear hE' hy
          refine Ord.K 9 31 ?_; refine Ord.K 10 41 ?_; refine Ord.K 11 42 ?_
          refine wpAnyH_ready (rs := [13]) (by kernel_rfl) (by simp) ?_
          refine (AllReadyH.cons rfl (fun K hK => ?_) AllReadyH.nil)
          obtain ⟨⟨r0, r1⟩, r2, r3⟩ := P12.two
          go_simp
          have hE' : Ext w2 ((V6.setCell ⟨V1.heap.size, 0, none⟩ (.int .i64 G)).setCell ⟨V1.heap.size, 1, none⟩ (.int .i64 Q)) := ((hE.setNew (by first | omega | (simp; omega) | simp) _).setNew (by first | omega | (simp; omega) | simp) _)
          refine hK.out _ _ hE' (fun hHeld => ?_)
          clear hK K r0 r1 r2 r3
          (try simp only [Act.put, Ord.a, Ord.b, Ord.c])
          replace P12 := P12.set2 (u := .int .i64 G) (v := .int .i64 Q)
          replace hE := hE'
          clear hE'
          generalize ((V6.setCell ⟨V1.heap.size, 0, none⟩ (.int .i64 G)).setCell ⟨V1.heap.size, 1, none⟩ (.int .i64 Q)) = V7 at *
          refine Ord.K 14 13 ?_
          refine wpAnyH_done (by kernel_rfl) ?_ _
          go_wp2_with fail; go_meet; exact ⟨⟨_, rfl, P12⟩, rfl, hE⟩
      · go_simp
        have hy : Ext V0 (V0.alloc (.cells #[.int .i64 0, .int .i64 0] 49)) := (Ext.refl V0).alloc _
        have hE' := hE.trans hy
        refine hK.out _ _ hE' (fun hHeld => ?_)
        clear hK K
        (try simp only [Act.put, Ord.a, Ord.b, Ord.c])
        have P12 : Box (V0.alloc (.cells #[.int .i64 0, .int .i64 0] 49)) V0.heap.size [.int .i64 0, .int .i64 0] := Box.new (vs := [.int .i64 0, .int .i64 0]) rfl
        have z12 := Ext.size hE
        have y12 : V0.heap.size < (V0.alloc (.cells #[.int .i64 0, .int .i64 0] 49)).heap.size := by simp
        replace hE := hE'
        clear hE' hy
        generalize V0.alloc (.cells #[.int .i64 0, .int .i64 0] 49) = V1 at *
        refine wpAnyH_ready (rs := [1]) (by kernel_rfl) (by simp) ?_
        refine (AllReadyH.cons rfl (fun K hK => ?_) AllReadyH.nil)
        go_simp
        go_at_call 27
        refine (PW.out _).mono ?_
        rintro e V2 ⟨rfl, hy⟩
        go_wp2_with fail
        have zy := Ext.size hy
        have hE' := hE.trans hy
        refine hK.out _ _ hE' (fun hHeld => ?_)
        clear hK K
        (try simp only [Act.put, Ord.a, Ord.b, Ord.c])
        replace P12 := P12.ext hy
        replace hE := hE'
        clear hE' hy
        refine wpAnyH_ready (rs := [3]) (by kernel_rfl) (by simp) ?_
        refine (AllReadyH.cons rfl (fun K hK => ?_) AllReadyH.nil)
        go_simp
        go_at_call 43
        refine (PM.out _).mono ?_
        rintro e V3 ⟨rfl, hy⟩
        go_wp2_with fail
        have zy := Ext.size hy
        have hE' := hE.trans hy
        refine hK.out _ _ hE' (fun hHeld => ?_)
        clear hK K
        (try simp only [Act.put, Ord.a, Ord.b, Ord.c])
        replace P12 := P12.ext hy
        replace hE := hE'
        clear hE' hy
        refine wpAnyH_ready (rs := [5]) (by kernel_rfl) (by simp) ?_
        refine (AllReadyH.cons rfl (fun K hK => ?_) AllReadyH.nil)
        go_simp
        go_at_call 28
        refine (PA.out _).mono ?_
        rintro e V4 ⟨rfl, hy⟩
        go_wp2_with fail
        have zy := Ext.size hy
        have hE' := hE.trans hy
        refine hK.out _ _ hE' (fun hHeld => ?_)
        clear hK K
        (try simp only [Act.put, Ord.a, Ord.b, Ord.c])
        replace P12 := P12.ext hy
        replace hE := hE'
        clear hE' hy
        refine wpAnyH_ready (rs := [7]) (by kernel_rfl) (by simp) ?_
        refine (AllReadyH.cons rfl (fun K hK => ?_) AllReadyH.nil)
        go_simp
        go_at_call 28
        refine (PB.out _).mono ?_
        rintro e V5 ⟨rfl, hy⟩
        go_wp2_with fail
        have zy := Ext.size hy
        have hE' := hE.trans hy
        refine hK.out _ _ hE' (fun hHeld => ?_)
        clear hK K
        (try simp only [Act.put, Ord.a, Ord.b, Ord.c])
        replace P12 := P12.ext hy
        replace hE := hE'
        clear hE' hy
        refine wpAnyH_ready (rs := [8]) (by kernel_rfl) (by simp) ?_
        refine (AllReadyH.cons rfl (fun K hK => ?_) AllReadyH.nil)
        go_simp
        go_at_call 20
        refine (PI.out _).mono ?_
        rintro e V6 ⟨rfl, hy⟩
        go_wp2_with fail
        have zy := Ext.size hy
        have hE' := hE.trans hy
        refine hK.out _ _ hE' (fun hHeld => ?_)
        clear hK K
        (try simp only [Act.put, Ord.a, Ord.b, Ord.c])
        replace P12 := P12.ext hy
        replace hE := hE'
        clear hE' hy
        refine Ord.K 9 31 ?_; refine Ord.K 10 41 ?_; refine Ord.K 11 42 ?_
        refine wpAnyH_ready (rs := [13]) (by kernel_rfl) (by simp) ?_
        refine (AllReadyH.cons rfl (fun K hK => ?_) AllReadyH.nil)
        obtain ⟨⟨r0, r1⟩, r2, r3⟩ := P12.two
        go_simp
        have hE' : Ext w2 ((V6.setCell ⟨V0.heap.size, 0, none⟩ (.int .i64 G)).setCell ⟨V0.heap.size, 1, none⟩ (.int .i64 Q)) := ((hE.setNew (by first | omega | (simp; omega) | simp) _).setNew (by first | omega | (simp; omega) | simp) _)
        refine hK.out _ _ hE' (fun hHeld => ?_)
        clear hK K r0 r1 r2 r3
        (try simp only [Act.put, Ord.a, Ord.b, Ord.c])
        replace P12 := P12.set2 (u := .int .i64 G) (v := .int .i64 Q)
        replace hE := hE'
        clear hE'
        generalize ((V6.setCell ⟨V0.heap.size, 0, none⟩ (.int .i64 G)).setCell ⟨V0.heap.size, 1, none⟩ (.int .i64 Q)) = V7 at *
        refine Ord.K 14 13 ?_
        refine wpAnyH_done (by kernel_rfl) ?_ _
        go_wp2_with fail; go_meet; exact ⟨⟨_, rfl, P12⟩, rfl, hE⟩
    case rest =>
      obtain ⟨⟨B2, rfl, Q2⟩, rfl, X2⟩ := hcut
      rename World => w3
      have Q1 := HQ1.out.ext X2
      obtain ⟨⟨c0, c1⟩, _⟩ := Q1.two
      obtain ⟨⟨d0, d1⟩, _⟩ := Q2.two
      clear Q1 Q2
      go_wp2_with fail
      refine (Rmx.eqRoom_same _ _ _).mono ?_
      rintro e w4 ⟨rfl, hy⟩
      go_wp2
      go_ret
      exact ⟨rfl, hX.trans (hz.trans (X1.trans (X2.trans hy)))⟩

theorem own : ownKnob Try.prog.godebug = none := by kernel_rfl
theorem laidOut : laidOutB Try.prog = true := Clo.laid

set_option maxRecDepth 100000 in
set_option maxHeartbeats 1000000 in
theorem lifted (os : Os) (started : os.Started) (H : Type) (enc : TypeId × Value → H) :
    ReturnsInHanded {} Try.checked os 11 .any (Rows.fnExactRoomBetweenSpec.pre6 enc Try.prog Try.f11 Rows.fnExactRoomBetweenRow.domain false) (Rows.fnExactRoomBetweenSpec.post enc Try.prog Try.f11 false true false false) := by
  refine returnsInHanded_of_change (C := Try.checked) own started (by kernel_rfl) Try.func11
    (ChangeSpec.witness6 (enc := enc) (C := Try.checked) false ⟨#[], #[.agg #[.int .i64 0, .int .i64 0], .agg #[.string ⟨#[]⟩, .int .i64 0, .int .i64 0, .int .i64 0, .int .i64 0], .agg #[.int .i64 0, .int .i64 0, .int .i64 0, .int .i64 0, .int .i64 0], .agg #[.int .i64 0, .int .i64 0, .int .i64 0, .int .i64 0, .int .i64 0]], []⟩ 8 (by kernel_rfl) (by kernel_rfl) (by kernel_rfl) (by kernel_rfl)) ?_
  intro W base args ds gs before hval0 hW hcnd _
  have hval : ∀ (j : Nat) t v, Try.f11.params[j]? = some t → args[j]? = some v → Value.okWide Try.prog W .any base t v := hval0
  have hW' := hW
  obtain ⟨p, q, hA0, hV, rfl, hfz, hnd⟩ := hW
  have hA : DataW.TrodAll enc Try.prog W 0 (fun _ => true) true Try.f11.params.toList args.toList ds p := hA0
  rw [Try.params11] at hA hval
  obtain ⟨v0, vs0, d0, ds0, p0, q0, hargs, rfl, rfl, h0, r0⟩ := trodAll_cons hA
  obtain ⟨v1, vs1, d1, ds1, p1, q1, rfl, rfl, rfl, h1, r1⟩ := trodAll_cons r0
  obtain ⟨v2, vs2, d2, ds2, p2, q2, rfl, rfl, rfl, h2, r2⟩ := trodAll_cons r1
  obtain ⟨v3, vs3, d3, ds3, p3, q3, rfl, rfl, rfl, h3, r3⟩ := trodAll_cons r2
  obtain ⟨rfl, rfl, rfl⟩ := trodAll_nil r3
  obtain rfl : args = #[v0, v1, v2, v3] := by cases args; simp_all
  obtain ⟨rfl, rfl⟩ := trodVars_none hV
  have k0 := h0
  have lt0 : ∀ x ∈ p0, x.block < W.heap.size := by obtain ⟨m, hm⟩ := k0; exact DataW.trod_lt m _ _ _ hm
  obtain ⟨cx0, cy0, yx0, yy0, m0, rfl, _, _, hyx0, hyy0⟩ := Joins.open_agg2 Try.underlying57 (by kernel_rfl) (by kernel_rfl) (hval 0 57 v0 rfl rfl) h0
  obtain ⟨x0, ex0, _, wx0⟩ := DataW.trod_int Try.underlying2 hyx0
  obtain ⟨y0, ey0, _, wy0⟩ := DataW.trod_int Try.underlying2 hyy0
  simp at ex0 ey0
  subst ex0 ey0
  have k1 := h1
  have lt1 : ∀ x ∈ p1, x.block < W.heap.size := by obtain ⟨m, hm⟩ := k1; exact DataW.trod_lt m _ _ _ hm
  obtain ⟨n1, a1, b1, c1, e1, rfl, w1⟩ := Crs.open_markv Try.underlying81 (by kernel_rfl) ⟨rfl, by kernel_rfl⟩ ⟨rfl, by kernel_rfl⟩ ⟨rfl, by kernel_rfl⟩ ⟨rfl, by kernel_rfl⟩ Try.underlying9 Try.underlying58 ⟨rfl, by kernel_rfl⟩ ⟨rfl, by kernel_rfl⟩ Try.underlying2 Try.underlying2 Try.underlying2 Try.underlying2 (hval 1 81 v1 rfl rfl) h1
  have k2 := h2
  have lt2 : ∀ x ∈ p2, x.block < W.heap.size := by obtain ⟨m, hm⟩ := k2; exact DataW.trod_lt m _ _ _ hm
  obtain ⟨a2, b2, c2, x2, y2, rfl⟩ := OpnH.open_hull Try.underlying60 (by kernel_rfl) ⟨rfl, by kernel_rfl⟩ ⟨rfl, by kernel_rfl⟩ ⟨rfl, by kernel_rfl⟩ Try.underlying58 Try.underlying58 ⟨rfl, by kernel_rfl⟩ ⟨rfl, by kernel_rfl⟩ Try.underlying2 Try.underlying2 Try.underlying2 (hval 2 60 v2 rfl rfl) h2
  have k3 := h3
  have lt3 : ∀ x ∈ p3, x.block < W.heap.size := by obtain ⟨m, hm⟩ := k3; exact DataW.trod_lt m _ _ _ hm
  obtain ⟨a3, b3, c3, x3, y3, rfl⟩ := OpnH.open_hull Try.underlying60 (by kernel_rfl) ⟨rfl, by kernel_rfl⟩ ⟨rfl, by kernel_rfl⟩ ⟨rfl, by kernel_rfl⟩ Try.underlying58 Try.underlying58 ⟨rfl, by kernel_rfl⟩ ⟨rfl, by kernel_rfl⟩ Try.underlying2 Try.underlying2 Try.underlying2 (hval 3 60 v3 rfl rfl) h3
  clear hA0 hval0
  refine (walk x0 y0 n1 a1 b1 c1 e1 a2 b2 c2 x2 y2 a3 b3 c3 x3 y3 W w1).mono fun e W' ⟨he, hx⟩ => ?_
  have bel := hx.below
  subst he
  exact ⟨_, rfl, _, _, _, [], _, [], hW', trodAll_mk1 (shut_bool Try.underlying4 _), (trodAll_cons_mk (Below.trod laidOut (by kernel_rfl) (of_decide_eq_true (by kernel_rfl)) k0 bel lt0) (trodAll_cons_mk (Below.trod laidOut (by kernel_rfl) (of_decide_eq_true (by kernel_rfl)) k1 bel lt1) (trodAll_cons_mk (Below.trod laidOut (by kernel_rfl) (of_decide_eq_true (by kernel_rfl)) k2 bel lt2) (trodAll_cons_mk (Below.trod laidOut (by kernel_rfl) (of_decide_eq_true (by kernel_rfl)) k3 bel lt3) trodAll_mk0)))), rfl, bel.frame _, fun h => by cases h⟩

set_option maxRecDepth 100000 in
set_option maxHeartbeats 400000000 in
theorem closed : joinedFacts Try.pinned.checked.prog 11 Try.f11 Rows.fnExactRoomBetweenSpec Rows.fnExactRoomBetweenRow = true := by
  unfold joinedFacts
  simp only [Bool.and_eq_true]
  repeat' (with_reducible refine And.intro ?_ ?_)
  all_goals (first | (with_reducible exact Clo.laid) | (with_reducible exact Clo.rowed) | (with_reducible exact Clo.heard) | (with_reducible exact Clo.enter) | (rw [Clo.lifts]; rfl) | (rw [Clo.made]; rfl) | (as_aux_lemma => kernel_rfl))

theorem proved : Rows.FnExactRoomBetweenSaid :=
  OpenClaim.holds_of_wide 11 Try.f11 rfl rfl rfl rfl rfl rfl rfl ⟨rfl, rfl, rfl, rfl, rfl⟩ rfl rfl rfl rfl rfl (by as_aux_lemma => kernel_rfl) Try.func11 closed
    (of_decide_eq_true (by as_aux_lemma => kernel_rfl)) (by unfold Func.isWrapper; first | (rw [if_pos (by decide +kernel)]; kernel_rfl) | (rw [if_neg (by decide +kernel)]; exact ⟨rfl, rfl⟩))
    (fun os started H enc _ => lifted os started H enc)

end Go.Proofs.Ytcangdcakgcpaaa.fnExactRoomBetween
