import Derived.Test.YtknelhceaoblhaaGreatHulN
namespace Go.Proofs.YtknelhceaoblhaaGreat.Hul
open Go.ChangeShapes Go.WideShapes Go.ChangeAt Go.RowKit
open Go.Proofs.YtknelhceaoblhaaGreat.Num Go.Proofs.YtknelhceaoblhaaGreat.Kit Go.Proofs.YtknelhceaoblhaaGreat.Pts Go.Proofs.YtknelhceaoblhaaGreat.Seg Go.Proofs.YtknelhceaoblhaaGreat.Wnd
open Go.Proofs.YtknelhceaoblhaaGreat.Win (wiB isNear_any)
open Go.Proofs.YtknelhceaoblhaaGreat.Win (within_any)
set_option linter.unusedVariables false
set_option linter.unusedSimpArgs false
set_option maxRecDepth 100000 in
set_option maxHeartbeats 4000000 in
theorem hullsNear_impl (a b c d n p q u v m r : Int) (w : World) : Calls Tryz.prog 92 #[Hv a b c d n, Hv p q u v m, .int .i64 r] w fun e w' => e = .returned (.tuple #[.bool (hnB a b c d n p q u v m r), .int .i64 (hnC a b c d n p q u v m r)]) ∧ Ext w w' := by
  obtain ⟨W0, hW0⟩ : ∃ W0, W0 = (w.alloc (.cells #[.int .i64 a, .int .i64 b, .int .i64 c, .int .i64 d, .int .i64 n] 115)).alloc (.cells #[.int .i64 p, .int .i64 q, .int .i64 u, .int .i64 v, .int .i64 m] 115) := ⟨_, rfl⟩
  have hX : Ext w W0 := hW0 ▸ (((Ext.refl w).alloc _).alloc _)
  have hs0 : W0.heap.size = w.heap.size + 1 + 1 := by rw [hW0]; simp
  have e00 : ∀ w', (Ext W0) w' → w'.cell? ⟨w.heap.size, 0, none⟩ = some (.int .i64 a) := fun w' h => h.cellOf (by rw [hW0]; exact ((Ext.refl _).alloc _).cellOf (boxed 0 rfl (by simp)))
  have e01 : ∀ w', (Ext W0) w' → w'.cell? ⟨w.heap.size, 1, none⟩ = some (.int .i64 b) := fun w' h => h.cellOf (by rw [hW0]; exact ((Ext.refl _).alloc _).cellOf (boxed 1 rfl (by simp)))
  have e02 : ∀ w', (Ext W0) w' → w'.cell? ⟨w.heap.size, 2, none⟩ = some (.int .i64 c) := fun w' h => h.cellOf (by rw [hW0]; exact ((Ext.refl _).alloc _).cellOf (boxed 2 rfl (by simp)))
  have e03 : ∀ w', (Ext W0) w' → w'.cell? ⟨w.heap.size, 3, none⟩ = some (.int .i64 d) := fun w' h => h.cellOf (by rw [hW0]; exact ((Ext.refl _).alloc _).cellOf (boxed 3 rfl (by simp)))
  have e04 : ∀ w', (Ext W0) w' → w'.cell? ⟨w.heap.size, 4, none⟩ = some (.int .i64 n) := fun w' h => h.cellOf (by rw [hW0]; exact ((Ext.refl _).alloc _).cellOf (boxed 4 rfl (by simp)))
  have e10 : ∀ w', (Ext W0) w' → w'.cell? ⟨w.heap.size + 1, 0, none⟩ = some (.int .i64 p) := fun w' h => h.cellOf (by rw [hW0]; exact boxed 0 rfl (by simp))
  have e11 : ∀ w', (Ext W0) w' → w'.cell? ⟨w.heap.size + 1, 1, none⟩ = some (.int .i64 q) := fun w' h => h.cellOf (by rw [hW0]; exact boxed 1 rfl (by simp))
  have e12 : ∀ w', (Ext W0) w' → w'.cell? ⟨w.heap.size + 1, 2, none⟩ = some (.int .i64 u) := fun w' h => h.cellOf (by rw [hW0]; exact boxed 2 rfl (by simp))
  have e13 : ∀ w', (Ext W0) w' → w'.cell? ⟨w.heap.size + 1, 3, none⟩ = some (.int .i64 v) := fun w' h => h.cellOf (by rw [hW0]; exact boxed 3 rfl (by simp))
  have e14 : ∀ w', (Ext W0) w' → w'.cell? ⟨w.heap.size + 1, 4, none⟩ = some (.int .i64 m) := fun w' h => h.cellOf (by rw [hW0]; exact boxed 4 rfl (by simp))
  go_enter Tryz.func92, Tryz.ntmps92
  go_wp2_with fail
  rw [← hW0]
  clear hW0
  refine (hullValid_any _ _ _ _ _ _).mono ?_
  rintro e w1 ⟨rfl, hz⟩
  replace hz : Ext W0 w1 := hz
  cases h1 : hlB a b c d n
  · have HC := Lib.hid (show hnC a b c d n p q u v m r = 1 from if_no (h2_no1 h1))
    have HV := Lib.hid (show hnB a b c d n p q u v m r = false by unfold hnB; rw [HC.out]; rfl)
    go_wp2
    go_ret2
    exact ⟨ret_bool_int HV.out HC.out, hX.trans hz⟩
  have g10 := e10 w1 hz; have g11 := e11 w1 hz; have g12 := e12 w1 hz; have g13 := e13 w1 hz; have g14 := e14 w1 hz
  go_wp2_with fail
  refine (hullValid_any _ _ _ _ _ _).mono ?_
  rintro e w2 ⟨rfl, hy⟩
  replace hz := hz.trans hy
  clear hy g10 g11 g12 g13 g14
  cases h2 : hlB p q u v m
  · have HC := Lib.hid (show hnC a b c d n p q u v m r = 1 from if_no (h2_no2 h2))
    have HV := Lib.hid (show hnB a b c d n p q u v m r = false by unfold hnB; rw [HC.out]; rfl)
    go_wp2
    go_ret2
    exact ⟨ret_bool_int HV.out HC.out, hX.trans hz⟩
  have HC0 := Lib.hid (show hnC a b c d n p q u v m r = (if inB r 0 10000 = true ∧ axB a b c d n = true ∧ axB p q u v m = true then 0 else 2) from if_yes (h2_yes h1 h2))
  have PA := Lib.hid (fun w => axisI_any a b c d n w h1)
  have PB := Lib.hid (fun w => axisI_any p q u v m w h2)
  have HN := Lib.hid (show hnN a b c d n p q u v m r = nrB (stX a c d n) (stY b c d n) a b (stX p u v m) (stY q u v m) p q r from rfl)
  have EA := Lib.hid (show axB a b c d n = sgB (stX a c d n) (stY b c d n) a b from rfl)
  have EB := Lib.hid (show axB p q u v m = sgB (stX p u v m) (stY q u v m) p q from rfl)
  generalize stX a c d n = s at *
  generalize stY b c d n = t at *
  generalize stX p u v m = x at *
  generalize stY q u v m = y at *
  have hzW := Ext.size hz
  go_wp2_with fail
  go_cut [8, 9] (fun f g wx => (∃ B C, f = .pointer (some ⟨B, 0, none⟩) ∧ g = .pointer (some ⟨C, 0, none⟩) ∧ Box wx B [.int .i64 s, .int .i64 t, .int .i64 a, .int .i64 b] ∧ Box wx C [.int .i64 x, .int .i64 y, .int .i64 p, .int .i64 q]) ∧ Ext W0 wx)
  case first =>
    refine wp_region_held_drew (S := fun w' => Ext W0 w') (by kernel_rfl) (by (try dsimp only); exact Ext.drew hz) (fun hHeld => ?_)
    have hE : Ext W0 w2.drew := Ext.drew hz
    obtain ⟨V0, hV0⟩ : ∃ V0, V0 = w2.drew := ⟨_, rfl⟩
    rw [← hV0] at hE hHeld ⊢
    clear hV0
    refine Ord.K 0 20 ?_; refine Ord.K 2 22 ?_
    refine wpAnyH_ready (rs := [1, 4, 5]) (by kernel_rfl) (by simp) ?_
    refine (AllReadyH.cons rfl (fun K hK => ?_) (AllReadyH.cons rfl (fun K hK => ?_) (AllReadyH.cons rfl (fun K hK => ?_) AllReadyH.nil)))
    · go_simp
      go_at_call 122
      refine (PA.out _).mono ?_
      rintro e V1 ⟨rfl, hy⟩
      go_wp2_with fail
      have zy := Ext.size hy
      have hE' := hE.trans hy
      refine hK.out _ _ hE' (fun hHeld => ?_)
      clear hK K
      (try simp only [Act.put, Ord.a, Ord.b, Ord.c])
      replace hE := hE'
      clear hE' hy
      refine wpAnyH_ready (rs := [3, 4, 5]) (by kernel_rfl) (by simp) ?_
      refine (AllReadyH.cons rfl (fun K hK => ?_) (AllReadyH.cons rfl (fun K hK => ?_) (AllReadyH.cons rfl (fun K hK => ?_) AllReadyH.nil)))
      · go_simp
        go_at_call 122
        refine (PB.out _).mono ?_
        rintro e V2 ⟨rfl, hy⟩
        go_wp2_with fail
        have zy := Ext.size hy
        have hE' := hE.trans hy
        refine hK.out _ _ hE' (fun hHeld => ?_)
        clear hK K
        (try simp only [Act.put, Ord.a, Ord.b, Ord.c])
        replace hE := hE'
        clear hE' hy
        refine wpAnyH_ready (rs := [4, 5]) (by kernel_rfl) (by simp) ?_
        refine (AllReadyH.cons rfl (fun K hK => ?_) (AllReadyH.cons rfl (fun K hK => ?_) AllReadyH.nil))
        · go_simp
          have hy : Ext V2 (V2.alloc (.cells #[.int .i64 0, .int .i64 0, .int .i64 0, .int .i64 0] 144)) := (Ext.refl V2).alloc _
          have hE' := hE.trans hy
          refine hK.out _ _ hE' (fun hHeld => ?_)
          clear hK K
          (try simp only [Act.put, Ord.a, Ord.b, Ord.c])
          have P4 : Box (V2.alloc (.cells #[.int .i64 0, .int .i64 0, .int .i64 0, .int .i64 0] 144)) V2.heap.size [.int .i64 0, .int .i64 0, .int .i64 0, .int .i64 0] := Box.new (vs := [.int .i64 0, .int .i64 0, .int .i64 0, .int .i64 0]) rfl
          have z4 := Ext.size hE
          have y4 : V2.heap.size < (V2.alloc (.cells #[.int .i64 0, .int .i64 0, .int .i64 0, .int .i64 0] 144)).heap.size := by simp
          replace hE := hE'
          clear hE' hy
          generalize V2.alloc (.cells #[.int .i64 0, .int .i64 0, .int .i64 0, .int .i64 0] 144) = V3 at *
          refine wpAnyH_ready (rs := [5]) (by kernel_rfl) (by simp) ?_
          refine (AllReadyH.cons rfl (fun K hK => ?_) AllReadyH.nil)
          go_simp
          have hy : Ext V3 (V3.alloc (.cells #[.int .i64 0, .int .i64 0, .int .i64 0, .int .i64 0] 144)) := (Ext.refl V3).alloc _
          have hE' := hE.trans hy
          refine hK.out _ _ hE' (fun hHeld => ?_)
          clear hK K
          (try simp only [Act.put, Ord.a, Ord.b, Ord.c])
          replace P4 := P4.ext hy
          have P5 : Box (V3.alloc (.cells #[.int .i64 0, .int .i64 0, .int .i64 0, .int .i64 0] 144)) V3.heap.size [.int .i64 0, .int .i64 0, .int .i64 0, .int .i64 0] := Box.new (vs := [.int .i64 0, .int .i64 0, .int .i64 0, .int .i64 0]) rfl
          have z5 := Ext.size hE
          have y5 : V3.heap.size < (V3.alloc (.cells #[.int .i64 0, .int .i64 0, .int .i64 0, .int .i64 0] 144)).heap.size := by simp
          replace hE := hE'
          clear hE' hy
          generalize V3.alloc (.cells #[.int .i64 0, .int .i64 0, .int .i64 0, .int .i64 0] 144) = V4 at *
          refine wpAnyH_ready (rs := [6]) (by kernel_rfl) (by simp) ?_
          refine (AllReadyH.cons rfl (fun K hK => ?_) AllReadyH.nil)
          obtain ⟨⟨r0, r1, r2, r3⟩, s0, s1, s2, s3⟩ := P4.four
          go_simp
          have hE' : Ext W0 ((((V4.setCell ⟨V2.heap.size, 0, none⟩ (.int .i64 s)).setCell ⟨V2.heap.size, 1, none⟩ (.int .i64 t)).setCell ⟨V2.heap.size, 2, none⟩ (.int .i64 a)).setCell ⟨V2.heap.size, 3, none⟩ (.int .i64 b)) := ((((hE.setNew (by first | omega | (simp; omega) | simp) _).setNew (by first | omega | (simp; omega) | simp) _).setNew (by first | omega | (simp; omega) | simp) _).setNew (by first | omega | (simp; omega) | simp) _)
          refine hK.out _ _ hE' (fun hHeld => ?_)
          clear hK K r0 r1 r2 r3 s0 s1 s2 s3
          (try simp only [Act.put, Ord.a, Ord.b, Ord.c])
          replace P4 := P4.set4 (a := .int .i64 s) (b := .int .i64 t) (c := .int .i64 a) (d := .int .i64 b)
          replace P5 := ((((P5.away (p := ⟨V2.heap.size, 0, none⟩) (by simp; omega) (.int .i64 s)).away (p := ⟨V2.heap.size, 1, none⟩) (by simp; omega) (.int .i64 t)).away (p := ⟨V2.heap.size, 2, none⟩) (by simp; omega) (.int .i64 a)).away (p := ⟨V2.heap.size, 3, none⟩) (by simp; omega) (.int .i64 b))
          replace hE := hE'
          clear hE'
          generalize ((((V4.setCell ⟨V2.heap.size, 0, none⟩ (.int .i64 s)).setCell ⟨V2.heap.size, 1, none⟩ (.int .i64 t)).setCell ⟨V2.heap.size, 2, none⟩ (.int .i64 a)).setCell ⟨V2.heap.size, 3, none⟩ (.int .i64 b)) = V5 at *
          refine wpAnyH_ready (rs := [7]) (by kernel_rfl) (by simp) ?_
          refine (AllReadyH.cons rfl (fun K hK => ?_) AllReadyH.nil)
          obtain ⟨⟨r0, r1, r2, r3⟩, s0, s1, s2, s3⟩ := P5.four
          go_simp
          have hE' : Ext W0 ((((V5.setCell ⟨V3.heap.size, 0, none⟩ (.int .i64 x)).setCell ⟨V3.heap.size, 1, none⟩ (.int .i64 y)).setCell ⟨V3.heap.size, 2, none⟩ (.int .i64 p)).setCell ⟨V3.heap.size, 3, none⟩ (.int .i64 q)) := ((((hE.setNew (by first | omega | (simp; omega) | simp) _).setNew (by first | omega | (simp; omega) | simp) _).setNew (by first | omega | (simp; omega) | simp) _).setNew (by first | omega | (simp; omega) | simp) _)
          refine hK.out _ _ hE' (fun hHeld => ?_)
          clear hK K r0 r1 r2 r3 s0 s1 s2 s3
          (try simp only [Act.put, Ord.a, Ord.b, Ord.c])
          replace P5 := P5.set4 (a := .int .i64 x) (b := .int .i64 y) (c := .int .i64 p) (d := .int .i64 q)
          replace P4 := ((((P4.away (p := ⟨V3.heap.size, 0, none⟩) (by simp; omega) (.int .i64 x)).away (p := ⟨V3.heap.size, 1, none⟩) (by simp; omega) (.int .i64 y)).away (p := ⟨V3.heap.size, 2, none⟩) (by simp; omega) (.int .i64 p)).away (p := ⟨V3.heap.size, 3, none⟩) (by simp; omega) (.int .i64 q))
          replace hE := hE'
          clear hE'
          generalize ((((V5.setCell ⟨V3.heap.size, 0, none⟩ (.int .i64 x)).setCell ⟨V3.heap.size, 1, none⟩ (.int .i64 y)).setCell ⟨V3.heap.size, 2, none⟩ (.int .i64 p)).setCell ⟨V3.heap.size, 3, none⟩ (.int .i64 q)) = V6 at *
          refine wpAnyH_done (by kernel_rfl) ?_ _
          go_wp2_with fail; go_meet; exact ⟨⟨_, _, rfl, rfl, P4, P5⟩, hE⟩
        · go_simp
          have hy : Ext V2 (V2.alloc (.cells #[.int .i64 0, .int .i64 0, .int .i64 0, .int .i64 0] 144)) := (Ext.refl V2).alloc _
          have hE' := hE.trans hy
          refine hK.out _ _ hE' (fun hHeld => ?_)
          clear hK K
          (try simp only [Act.put, Ord.a, Ord.b, Ord.c])
          have P5 : Box (V2.alloc (.cells #[.int .i64 0, .int .i64 0, .int .i64 0, .int .i64 0] 144)) V2.heap.size [.int .i64 0, .int .i64 0, .int .i64 0, .int .i64 0] := Box.new (vs := [.int .i64 0, .int .i64 0, .int .i64 0, .int .i64 0]) rfl
          have z5 := Ext.size hE
          have y5 : V2.heap.size < (V2.alloc (.cells #[.int .i64 0, .int .i64 0, .int .i64 0, .int .i64 0] 144)).heap.size := by simp
          replace hE := hE'
          clear hE' hy
          generalize V2.alloc (.cells #[.int .i64 0, .int .i64 0, .int .i64 0, .int .i64 0] 144) = V3 at *
          refine wpAnyH_ready (rs := [4]) (by kernel_rfl) (by simp) ?_
          refine (AllReadyH.cons rfl (fun K hK => ?_) AllReadyH.nil)
          go_simp
          have hy : Ext V3 (V3.alloc (.cells #[.int .i64 0, .int .i64 0, .int .i64 0, .int .i64 0] 144)) := (Ext.refl V3).alloc _
          have hE' := hE.trans hy
          refine hK.out _ _ hE' (fun hHeld => ?_)
          clear hK K
          (try simp only [Act.put, Ord.a, Ord.b, Ord.c])
          replace P5 := P5.ext hy
          have P4 : Box (V3.alloc (.cells #[.int .i64 0, .int .i64 0, .int .i64 0, .int .i64 0] 144)) V3.heap.size [.int .i64 0, .int .i64 0, .int .i64 0, .int .i64 0] := Box.new (vs := [.int .i64 0, .int .i64 0, .int .i64 0, .int .i64 0]) rfl
          have z4 := Ext.size hE
          have y4 : V3.heap.size < (V3.alloc (.cells #[.int .i64 0, .int .i64 0, .int .i64 0, .int .i64 0] 144)).heap.size := by simp
          replace hE := hE'
          clear hE' hy
          generalize V3.alloc (.cells #[.int .i64 0, .int .i64 0, .int .i64 0, .int .i64 0] 144) = V4 at *
          refine wpAnyH_ready (rs := [6]) (by kernel_rfl) (by simp) ?_
          refine (AllReadyH.cons rfl (fun K hK => ?_) AllReadyH.nil)
          obtain ⟨⟨r0, r1, r2, r3⟩, s0, s1, s2, s3⟩ := P4.four
          go_simp
          have hE' : Ext W0 ((((V4.setCell ⟨V3.heap.size, 0, none⟩ (.int .i64 s)).setCell ⟨V3.heap.size, 1, none⟩ (.int .i64 t)).setCell ⟨V3.heap.size, 2, none⟩ (.int .i64 a)).setCell ⟨V3.heap.size, 3, none⟩ (.int .i64 b)) := ((((hE.setNew (by first | omega | (simp; omega) | simp) _).setNew (by first | omega | (simp; omega) | simp) _).setNew (by first | omega | (simp; omega) | simp) _).setNew (by first | omega | (simp; omega) | simp) _)
          refine hK.out _ _ hE' (fun hHeld => ?_)
          clear hK K r0 r1 r2 r3 s0 s1 s2 s3
          (try simp only [Act.put, Ord.a, Ord.b, Ord.c])
          replace P4 := P4.set4 (a := .int .i64 s) (b := .int .i64 t) (c := .int .i64 a) (d := .int .i64 b)
          replace P5 := ((((P5.away (p := ⟨V3.heap.size, 0, none⟩) (by simp; omega) (.int .i64 s)).away (p := ⟨V3.heap.size, 1, none⟩) (by simp; omega) (.int .i64 t)).away (p := ⟨V3.heap.size, 2, none⟩) (by simp; omega) (.int .i64 a)).away (p := ⟨V3.heap.size, 3, none⟩) (by simp; omega) (.int .i64 b))
          replace hE := hE'
          clear hE'
          generalize ((((V4.setCell ⟨V3.heap.size, 0, none⟩ (.int .i64 s)).setCell ⟨V3.heap.size, 1, none⟩ (.int .i64 t)).setCell ⟨V3.heap.size, 2, none⟩ (.int .i64 a)).setCell ⟨V3.heap.size, 3, none⟩ (.int .i64 b)) = V5 at *
          refine wpAnyH_ready (rs := [7]) (by kernel_rfl) (by simp) ?_
          refine (AllReadyH.cons rfl (fun K hK => ?_) AllReadyH.nil)
          obtain ⟨⟨r0, r1, r2, r3⟩, s0, s1, s2, s3⟩ := P5.four
          go_simp
          have hE' : Ext W0 ((((V5.setCell ⟨V2.heap.size, 0, none⟩ (.int .i64 x)).setCell ⟨V2.heap.size, 1, none⟩ (.int .i64 y)).setCell ⟨V2.heap.size, 2, none⟩ (.int .i64 p)).setCell ⟨V2.heap.size, 3, none⟩ (.int .i64 q)) := ((((hE.setNew (by first | omega | (simp; omega) | simp) _).setNew (by first | omega | (simp; omega) | simp) _).setNew (by first | omega | (simp; omega) | simp) _).setNew (by first | omega | (simp; omega) | simp) _)
          refine hK.out _ _ hE' (fun hHeld => ?_)
          clear hK K r0 r1 r2 r3 s0 s1 s2 s3
          (try simp only [Act.put, Ord.a, Ord.b, Ord.c])
          replace P5 := P5.set4 (a := .int .i64 x) (b := .int .i64 y) (c := .int .i64 p) (d := .int .i64 q)
          replace P4 := ((((P4.away (p := ⟨V2.heap.size, 0, none⟩) (by simp; omega) (.int .i64 x)).away (p := ⟨V2.heap.size, 1, none⟩) (by simp; omega) (.int .i64 y)).away (p := ⟨V2.heap.size, 2, none⟩) (by simp; omega) (.int .i64 p)).away (p := ⟨V2.heap.size, 3, none⟩) (by simp; omega) (.int .i64 q))
          replace hE := hE'
          clear hE'
          generalize ((((V5.setCell ⟨V2.heap.size, 0, none⟩ (.int .i64 x)).setCell ⟨V2.heap.size, 1, none⟩ (.int .i64 y)).setCell ⟨V2.heap.size, 2, none⟩ (.int .i64 p)).setCell ⟨V2.heap.size, 3, none⟩ (.int .i64 q)) = V6 at *
          refine wpAnyH_done (by kernel_rfl) ?_ _
          go_wp2_with fail; go_meet; exact ⟨⟨_, _, rfl, rfl, P4, P5⟩, hE⟩
      · go_simp
        have hy : Ext V1 (V1.alloc (.cells #[.int .i64 0, .int .i64 0, .int .i64 0, .int .i64 0] 144)) := (Ext.refl V1).alloc _
        have hE' := hE.trans hy
        refine hK.out _ _ hE' (fun hHeld => ?_)
        clear hK K
        (try simp only [Act.put, Ord.a, Ord.b, Ord.c])
        have P4 : Box (V1.alloc (.cells #[.int .i64 0, .int .i64 0, .int .i64 0, .int .i64 0] 144)) V1.heap.size [.int .i64 0, .int .i64 0, .int .i64 0, .int .i64 0] := Box.new (vs := [.int .i64 0, .int .i64 0, .int .i64 0, .int .i64 0]) rfl
        have z4 := Ext.size hE
        have y4 : V1.heap.size < (V1.alloc (.cells #[.int .i64 0, .int .i64 0, .int .i64 0, .int .i64 0] 144)).heap.size := by simp
        replace hE := hE'
        clear hE' hy
        generalize V1.alloc (.cells #[.int .i64 0, .int .i64 0, .int .i64 0, .int .i64 0] 144) = V2 at *
        refine wpAnyH_ready (rs := [3, 5]) (by kernel_rfl) (by simp) ?_
        refine (AllReadyH.cons rfl (fun K hK => ?_) (AllReadyH.cons rfl (fun K hK => ?_) AllReadyH.nil))
        · go_simp
          go_at_call 122
          refine (PB.out _).mono ?_
          rintro e V3 ⟨rfl, hy⟩
          go_wp2_with fail
          have zy := Ext.size hy
          have hE' := hE.trans hy
          refine hK.out _ _ hE' (fun hHeld => ?_)
          clear hK K
          (try simp only [Act.put, Ord.a, Ord.b, Ord.c])
          replace P4 := P4.ext hy
          replace hE := hE'
          clear hE' hy
          refine wpAnyH_ready (rs := [5]) (by kernel_rfl) (by simp) ?_
          refine (AllReadyH.cons rfl (fun K hK => ?_) AllReadyH.nil)
          go_simp
          have hy : Ext V3 (V3.alloc (.cells #[.int .i64 0, .int .i64 0, .int .i64 0, .int .i64 0] 144)) := (Ext.refl V3).alloc _
          have hE' := hE.trans hy
          refine hK.out _ _ hE' (fun hHeld => ?_)
          clear hK K
          (try simp only [Act.put, Ord.a, Ord.b, Ord.c])
          replace P4 := P4.ext hy
          have P5 : Box (V3.alloc (.cells #[.int .i64 0, .int .i64 0, .int .i64 0, .int .i64 0] 144)) V3.heap.size [.int .i64 0, .int .i64 0, .int .i64 0, .int .i64 0] := Box.new (vs := [.int .i64 0, .int .i64 0, .int .i64 0, .int .i64 0]) rfl
          have z5 := Ext.size hE
          have y5 : V3.heap.size < (V3.alloc (.cells #[.int .i64 0, .int .i64 0, .int .i64 0, .int .i64 0] 144)).heap.size := by simp
          replace hE := hE'
          clear hE' hy
          generalize V3.alloc (.cells #[.int .i64 0, .int .i64 0, .int .i64 0, .int .i64 0] 144) = V4 at *
          refine wpAnyH_ready (rs := [6]) (by kernel_rfl) (by simp) ?_
          refine (AllReadyH.cons rfl (fun K hK => ?_) AllReadyH.nil)
          obtain ⟨⟨r0, r1, r2, r3⟩, s0, s1, s2, s3⟩ := P4.four
          go_simp
          have hE' : Ext W0 ((((V4.setCell ⟨V1.heap.size, 0, none⟩ (.int .i64 s)).setCell ⟨V1.heap.size, 1, none⟩ (.int .i64 t)).setCell ⟨V1.heap.size, 2, none⟩ (.int .i64 a)).setCell ⟨V1.heap.size, 3, none⟩ (.int .i64 b)) := ((((hE.setNew (by first | omega | (simp; omega) | simp) _).setNew (by first | omega | (simp; omega) | simp) _).setNew (by first | omega | (simp; omega) | simp) _).setNew (by first | omega | (simp; omega) | simp) _)
          refine hK.out _ _ hE' (fun hHeld => ?_)
          clear hK K r0 r1 r2 r3 s0 s1 s2 s3
          (try simp only [Act.put, Ord.a, Ord.b, Ord.c])
          replace P4 := P4.set4 (a := .int .i64 s) (b := .int .i64 t) (c := .int .i64 a) (d := .int .i64 b)
          replace P5 := ((((P5.away (p := ⟨V1.heap.size, 0, none⟩) (by simp; omega) (.int .i64 s)).away (p := ⟨V1.heap.size, 1, none⟩) (by simp; omega) (.int .i64 t)).away (p := ⟨V1.heap.size, 2, none⟩) (by simp; omega) (.int .i64 a)).away (p := ⟨V1.heap.size, 3, none⟩) (by simp; omega) (.int .i64 b))
          replace hE := hE'
          clear hE'
          generalize ((((V4.setCell ⟨V1.heap.size, 0, none⟩ (.int .i64 s)).setCell ⟨V1.heap.size, 1, none⟩ (.int .i64 t)).setCell ⟨V1.heap.size, 2, none⟩ (.int .i64 a)).setCell ⟨V1.heap.size, 3, none⟩ (.int .i64 b)) = V5 at *
          refine wpAnyH_ready (rs := [7]) (by kernel_rfl) (by simp) ?_
          refine (AllReadyH.cons rfl (fun K hK => ?_) AllReadyH.nil)
          obtain ⟨⟨r0, r1, r2, r3⟩, s0, s1, s2, s3⟩ := P5.four
          go_simp
          have hE' : Ext W0 ((((V5.setCell ⟨V3.heap.size, 0, none⟩ (.int .i64 x)).setCell ⟨V3.heap.size, 1, none⟩ (.int .i64 y)).setCell ⟨V3.heap.size, 2, none⟩ (.int .i64 p)).setCell ⟨V3.heap.size, 3, none⟩ (.int .i64 q)) := ((((hE.setNew (by first | omega | (simp; omega) | simp) _).setNew (by first | omega | (simp; omega) | simp) _).setNew (by first | omega | (simp; omega) | simp) _).setNew (by first | omega | (simp; omega) | simp) _)
          refine hK.out _ _ hE' (fun hHeld => ?_)
          clear hK K r0 r1 r2 r3 s0 s1 s2 s3
          (try simp only [Act.put, Ord.a, Ord.b, Ord.c])
          replace P5 := P5.set4 (a := .int .i64 x) (b := .int .i64 y) (c := .int .i64 p) (d := .int .i64 q)
          replace P4 := ((((P4.away (p := ⟨V3.heap.size, 0, none⟩) (by simp; omega) (.int .i64 x)).away (p := ⟨V3.heap.size, 1, none⟩) (by simp; omega) (.int .i64 y)).away (p := ⟨V3.heap.size, 2, none⟩) (by simp; omega) (.int .i64 p)).away (p := ⟨V3.heap.size, 3, none⟩) (by simp; omega) (.int .i64 q))
          replace hE := hE'
          clear hE'
          generalize ((((V5.setCell ⟨V3.heap.size, 0, none⟩ (.int .i64 x)).setCell ⟨V3.heap.size, 1, none⟩ (.int .i64 y)).setCell ⟨V3.heap.size, 2, none⟩ (.int .i64 p)).setCell ⟨V3.heap.size, 3, none⟩ (.int .i64 q)) = V6 at *
          refine wpAnyH_done (by kernel_rfl) ?_ _
          go_wp2_with fail; go_meet; exact ⟨⟨_, _, rfl, rfl, P4, P5⟩, hE⟩
        · go_simp
          have hy : Ext V2 (V2.alloc (.cells #[.int .i64 0, .int .i64 0, .int .i64 0, .int .i64 0] 144)) := (Ext.refl V2).alloc _
          have hE' := hE.trans hy
          refine hK.out _ _ hE' (fun hHeld => ?_)
          clear hK K
          (try simp only [Act.put, Ord.a, Ord.b, Ord.c])
          replace P4 := P4.ext hy
          have P5 : Box (V2.alloc (.cells #[.int .i64 0, .int .i64 0, .int .i64 0, .int .i64 0] 144)) V2.heap.size [.int .i64 0, .int .i64 0, .int .i64 0, .int .i64 0] := Box.new (vs := [.int .i64 0, .int .i64 0, .int .i64 0, .int .i64 0]) rfl
          have z5 := Ext.size hE
          have y5 : V2.heap.size < (V2.alloc (.cells #[.int .i64 0, .int .i64 0, .int .i64 0, .int .i64 0] 144)).heap.size := by simp
          replace hE := hE'
          clear hE' hy
          generalize V2.alloc (.cells #[.int .i64 0, .int .i64 0, .int .i64 0, .int .i64 0] 144) = V3 at *
          refine wpAnyH_ready (rs := [3]) (by kernel_rfl) (by simp) ?_
          refine (AllReadyH.cons rfl (fun K hK => ?_) AllReadyH.nil)
          go_simp
          go_at_call 122
          refine (PB.out _).mono ?_
          rintro e V4 ⟨rfl, hy⟩
          go_wp2_with fail
          have zy := Ext.size hy
          have hE' := hE.trans hy
          refine hK.out _ _ hE' (fun hHeld => ?_)
          clear hK K
          (try simp only [Act.put, Ord.a, Ord.b, Ord.c])
          replace P4 := P4.ext hy
          replace P5 := P5.ext hy
          replace hE := hE'
          clear hE' hy
          refine wpAnyH_ready (rs := [6]) (by kernel_rfl) (by simp) ?_
          refine (AllReadyH.cons rfl (fun K hK => ?_) AllReadyH.nil)
          obtain ⟨⟨r0, r1, r2, r3⟩, s0, s1, s2, s3⟩ := P4.four
          go_simp
          have hE' : Ext W0 ((((V4.setCell ⟨V1.heap.size, 0, none⟩ (.int .i64 s)).setCell ⟨V1.heap.size, 1, none⟩ (.int .i64 t)).setCell ⟨V1.heap.size, 2, none⟩ (.int .i64 a)).setCell ⟨V1.heap.size, 3, none⟩ (.int .i64 b)) := ((((hE.setNew (by first | omega | (simp; omega) | simp) _).setNew (by first | omega | (simp; omega) | simp) _).setNew (by first | omega | (simp; omega) | simp) _).setNew (by first | omega | (simp; omega) | simp) _)
          refine hK.out _ _ hE' (fun hHeld => ?_)
          clear hK K r0 r1 r2 r3 s0 s1 s2 s3
          (try simp only [Act.put, Ord.a, Ord.b, Ord.c])
          replace P4 := P4.set4 (a := .int .i64 s) (b := .int .i64 t) (c := .int .i64 a) (d := .int .i64 b)
          replace P5 := ((((P5.away (p := ⟨V1.heap.size, 0, none⟩) (by simp; omega) (.int .i64 s)).away (p := ⟨V1.heap.size, 1, none⟩) (by simp; omega) (.int .i64 t)).away (p := ⟨V1.heap.size, 2, none⟩) (by simp; omega) (.int .i64 a)).away (p := ⟨V1.heap.size, 3, none⟩) (by simp; omega) (.int .i64 b))
          replace hE := hE'
          clear hE'
          generalize ((((V4.setCell ⟨V1.heap.size, 0, none⟩ (.int .i64 s)).setCell ⟨V1.heap.size, 1, none⟩ (.int .i64 t)).setCell ⟨V1.heap.size, 2, none⟩ (.int .i64 a)).setCell ⟨V1.heap.size, 3, none⟩ (.int .i64 b)) = V5 at *
          refine wpAnyH_ready (rs := [7]) (by kernel_rfl) (by simp) ?_
          refine (AllReadyH.cons rfl (fun K hK => ?_) AllReadyH.nil)
          obtain ⟨⟨r0, r1, r2, r3⟩, s0, s1, s2, s3⟩ := P5.four
          go_simp
          have hE' : Ext W0 ((((V5.setCell ⟨V2.heap.size, 0, none⟩ (.int .i64 x)).setCell ⟨V2.heap.size, 1, none⟩ (.int .i64 y)).setCell ⟨V2.heap.size, 2, none⟩ (.int .i64 p)).setCell ⟨V2.heap.size, 3, none⟩ (.int .i64 q)) := ((((hE.setNew (by first | omega | (simp; omega) | simp) _).setNew (by first | omega | (simp; omega) | simp) _).setNew (by first | omega | (simp; omega) | simp) _).setNew (by first | omega | (simp; omega) | simp) _)
          refine hK.out _ _ hE' (fun hHeld => ?_)
          clear hK K r0 r1 r2 r3 s0 s1 s2 s3
          (try simp only [Act.put, Ord.a, Ord.b, Ord.c])
          replace P5 := P5.set4 (a := .int .i64 x) (b := .int .i64 y) (c := .int .i64 p) (d := .int .i64 q)
          replace P4 := ((((P4.away (p := ⟨V2.heap.size, 0, none⟩) (by simp; omega) (.int .i64 x)).away (p := ⟨V2.heap.size, 1, none⟩) (by simp; omega) (.int .i64 y)).away (p := ⟨V2.heap.size, 2, none⟩) (by simp; omega) (.int .i64 p)).away (p := ⟨V2.heap.size, 3, none⟩) (by simp; omega) (.int .i64 q))
          replace hE := hE'
          clear hE'
          generalize ((((V5.setCell ⟨V2.heap.size, 0, none⟩ (.int .i64 x)).setCell ⟨V2.heap.size, 1, none⟩ (.int .i64 y)).setCell ⟨V2.heap.size, 2, none⟩ (.int .i64 p)).setCell ⟨V2.heap.size, 3, none⟩ (.int .i64 q)) = V6 at *
          refine wpAnyH_done (by kernel_rfl) ?_ _
          go_wp2_with fail; go_meet; exact ⟨⟨_, _, rfl, rfl, P4, P5⟩, hE⟩
      · go_simp
        have hy : Ext V1 (V1.alloc (.cells #[.int .i64 0, .int .i64 0, .int .i64 0, .int .i64 0] 144)) := (Ext.refl V1).alloc _
        have hE' := hE.trans hy
        refine hK.out _ _ hE' (fun hHeld => ?_)
        clear hK K
        (try simp only [Act.put, Ord.a, Ord.b, Ord.c])
        have P5 : Box (V1.alloc (.cells #[.int .i64 0, .int .i64 0, .int .i64 0, .int .i64 0] 144)) V1.heap.size [.int .i64 0, .int .i64 0, .int .i64 0, .int .i64 0] := Box.new (vs := [.int .i64 0, .int .i64 0, .int .i64 0, .int .i64 0]) rfl
        have z5 := Ext.size hE
        have y5 : V1.heap.size < (V1.alloc (.cells #[.int .i64 0, .int .i64 0, .int .i64 0, .int .i64 0] 144)).heap.size := by simp
        replace hE := hE'
        clear hE' hy
        generalize V1.alloc (.cells #[.int .i64 0, .int .i64 0, .int .i64 0, .int .i64 0] 144) = V2 at *
        refine wpAnyH_ready (rs := [3, 4]) (by kernel_rfl) (by simp) ?_
        refine (AllReadyH.cons rfl (fun K hK => ?_) (AllReadyH.cons rfl (fun K hK => ?_) AllReadyH.nil))
        · go_simp
          go_at_call 122
          refine (PB.out _).mono ?_
          rintro e V3 ⟨rfl, hy⟩
          go_wp2_with fail
          have zy := Ext.size hy
          have hE' := hE.trans hy
          refine hK.out _ _ hE' (fun hHeld => ?_)
          clear hK K
          (try simp only [Act.put, Ord.a, Ord.b, Ord.c])
          replace P5 := P5.ext hy
          replace hE := hE'
          clear hE' hy
          refine wpAnyH_ready (rs := [4]) (by kernel_rfl) (by simp) ?_
          refine (AllReadyH.cons rfl (fun K hK => ?_) AllReadyH.nil)
          go_simp
          have hy : Ext V3 (V3.alloc (.cells #[.int .i64 0, .int .i64 0, .int .i64 0, .int .i64 0] 144)) := (Ext.refl V3).alloc _
          have hE' := hE.trans hy
          refine hK.out _ _ hE' (fun hHeld => ?_)
          clear hK K
          (try simp only [Act.put, Ord.a, Ord.b, Ord.c])
          replace P5 := P5.ext hy
          have P4 : Box (V3.alloc (.cells #[.int .i64 0, .int .i64 0, .int .i64 0, .int .i64 0] 144)) V3.heap.size [.int .i64 0, .int .i64 0, .int .i64 0, .int .i64 0] := Box.new (vs := [.int .i64 0, .int .i64 0, .int .i64 0, .int .i64 0]) rfl
          have z4 := Ext.size hE
          have y4 : V3.heap.size < (V3.alloc (.cells #[.int .i64 0, .int .i64 0, .int .i64 0, .int .i64 0] 144)).heap.size := by simp
          replace hE := hE'
          clear hE' hy
          generalize V3.alloc (.cells #[.int .i64 0, .int .i64 0, .int .i64 0, .int .i64 0] 144) = V4 at *
          refine wpAnyH_ready (rs := [6]) (by kernel_rfl) (by simp) ?_
          refine (AllReadyH.cons rfl (fun K hK => ?_) AllReadyH.nil)
          obtain ⟨⟨r0, r1, r2, r3⟩, s0, s1, s2, s3⟩ := P4.four
          go_simp
          have hE' : Ext W0 ((((V4.setCell ⟨V3.heap.size, 0, none⟩ (.int .i64 s)).setCell ⟨V3.heap.size, 1, none⟩ (.int .i64 t)).setCell ⟨V3.heap.size, 2, none⟩ (.int .i64 a)).setCell ⟨V3.heap.size, 3, none⟩ (.int .i64 b)) := ((((hE.setNew (by first | omega | (simp; omega) | simp) _).setNew (by first | omega | (simp; omega) | simp) _).setNew (by first | omega | (simp; omega) | simp) _).setNew (by first | omega | (simp; omega) | simp) _)
          refine hK.out _ _ hE' (fun hHeld => ?_)
          clear hK K r0 r1 r2 r3 s0 s1 s2 s3
          (try simp only [Act.put, Ord.a, Ord.b, Ord.c])
          replace P4 := P4.set4 (a := .int .i64 s) (b := .int .i64 t) (c := .int .i64 a) (d := .int .i64 b)
          replace P5 := ((((P5.away (p := ⟨V3.heap.size, 0, none⟩) (by simp; omega) (.int .i64 s)).away (p := ⟨V3.heap.size, 1, none⟩) (by simp; omega) (.int .i64 t)).away (p := ⟨V3.heap.size, 2, none⟩) (by simp; omega) (.int .i64 a)).away (p := ⟨V3.heap.size, 3, none⟩) (by simp; omega) (.int .i64 b))
          replace hE := hE'
          clear hE'
          generalize ((((V4.setCell ⟨V3.heap.size, 0, none⟩ (.int .i64 s)).setCell ⟨V3.heap.size, 1, none⟩ (.int .i64 t)).setCell ⟨V3.heap.size, 2, none⟩ (.int .i64 a)).setCell ⟨V3.heap.size, 3, none⟩ (.int .i64 b)) = V5 at *
          refine wpAnyH_ready (rs := [7]) (by kernel_rfl) (by simp) ?_
          refine (AllReadyH.cons rfl (fun K hK => ?_) AllReadyH.nil)
          obtain ⟨⟨r0, r1, r2, r3⟩, s0, s1, s2, s3⟩ := P5.four
          go_simp
          have hE' : Ext W0 ((((V5.setCell ⟨V1.heap.size, 0, none⟩ (.int .i64 x)).setCell ⟨V1.heap.size, 1, none⟩ (.int .i64 y)).setCell ⟨V1.heap.size, 2, none⟩ (.int .i64 p)).setCell ⟨V1.heap.size, 3, none⟩ (.int .i64 q)) := ((((hE.setNew (by first | omega | (simp; omega) | simp) _).setNew (by first | omega | (simp; omega) | simp) _).setNew (by first | omega | (simp; omega) | simp) _).setNew (by first | omega | (simp; omega) | simp) _)
          refine hK.out _ _ hE' (fun hHeld => ?_)
          clear hK K r0 r1 r2 r3 s0 s1 s2 s3
          (try simp only [Act.put, Ord.a, Ord.b, Ord.c])
          replace P5 := P5.set4 (a := .int .i64 x) (b := .int .i64 y) (c := .int .i64 p) (d := .int .i64 q)
          replace P4 := ((((P4.away (p := ⟨V1.heap.size, 0, none⟩) (by simp; omega) (.int .i64 x)).away (p := ⟨V1.heap.size, 1, none⟩) (by simp; omega) (.int .i64 y)).away (p := ⟨V1.heap.size, 2, none⟩) (by simp; omega) (.int .i64 p)).away (p := ⟨V1.heap.size, 3, none⟩) (by simp; omega) (.int .i64 q))
          replace hE := hE'
          clear hE'
          generalize ((((V5.setCell ⟨V1.heap.size, 0, none⟩ (.int .i64 x)).setCell ⟨V1.heap.size, 1, none⟩ (.int .i64 y)).setCell ⟨V1.heap.size, 2, none⟩ (.int .i64 p)).setCell ⟨V1.heap.size, 3, none⟩ (.int .i64 q)) = V6 at *
          refine wpAnyH_done (by kernel_rfl) ?_ _
          go_wp2_with fail; go_meet; exact ⟨⟨_, _, rfl, rfl, P4, P5⟩, hE⟩
        · go_simp
          have hy : Ext V2 (V2.alloc (.cells #[.int .i64 0, .int .i64 0, .int .i64 0, .int .i64 0] 144)) := (Ext.refl V2).alloc _
          have hE' := hE.trans hy
          refine hK.out _ _ hE' (fun hHeld => ?_)
          clear hK K
          (try simp only [Act.put, Ord.a, Ord.b, Ord.c])
          replace P5 := P5.ext hy
          have P4 : Box (V2.alloc (.cells #[.int .i64 0, .int .i64 0, .int .i64 0, .int .i64 0] 144)) V2.heap.size [.int .i64 0, .int .i64 0, .int .i64 0, .int .i64 0] := Box.new (vs := [.int .i64 0, .int .i64 0, .int .i64 0, .int .i64 0]) rfl
          have z4 := Ext.size hE
          have y4 : V2.heap.size < (V2.alloc (.cells #[.int .i64 0, .int .i64 0, .int .i64 0, .int .i64 0] 144)).heap.size := by simp
          replace hE := hE'
          clear hE' hy
          generalize V2.alloc (.cells #[.int .i64 0, .int .i64 0, .int .i64 0, .int .i64 0] 144) = V3 at *
          refine wpAnyH_ready (rs := [3]) (by kernel_rfl) (by simp) ?_
          refine (AllReadyH.cons rfl (fun K hK => ?_) AllReadyH.nil)
          go_simp
          go_at_call 122
          refine (PB.out _).mono ?_
          rintro e V4 ⟨rfl, hy⟩
          go_wp2_with fail
          have zy := Ext.size hy
          have hE' := hE.trans hy
          refine hK.out _ _ hE' (fun hHeld => ?_)
          clear hK K
          (try simp only [Act.put, Ord.a, Ord.b, Ord.c])
          replace P5 := P5.ext hy
          replace P4 := P4.ext hy
          replace hE := hE'
          clear hE' hy
          refine wpAnyH_ready (rs := [6]) (by kernel_rfl) (by simp) ?_
          refine (AllReadyH.cons rfl (fun K hK => ?_) AllReadyH.nil)
          obtain ⟨⟨r0, r1, r2, r3⟩, s0, s1, s2, s3⟩ := P4.four
          go_simp
          have hE' : Ext W0 ((((V4.setCell ⟨V2.heap.size, 0, none⟩ (.int .i64 s)).setCell ⟨V2.heap.size, 1, none⟩ (.int .i64 t)).setCell ⟨V2.heap.size, 2, none⟩ (.int .i64 a)).setCell ⟨V2.heap.size, 3, none⟩ (.int .i64 b)) := ((((hE.setNew (by first | omega | (simp; omega) | simp) _).setNew (by first | omega | (simp; omega) | simp) _).setNew (by first | omega | (simp; omega) | simp) _).setNew (by first | omega | (simp; omega) | simp) _)
          refine hK.out _ _ hE' (fun hHeld => ?_)
          clear hK K r0 r1 r2 r3 s0 s1 s2 s3
          (try simp only [Act.put, Ord.a, Ord.b, Ord.c])
          replace P4 := P4.set4 (a := .int .i64 s) (b := .int .i64 t) (c := .int .i64 a) (d := .int .i64 b)
          replace P5 := ((((P5.away (p := ⟨V2.heap.size, 0, none⟩) (by simp; omega) (.int .i64 s)).away (p := ⟨V2.heap.size, 1, none⟩) (by simp; omega) (.int .i64 t)).away (p := ⟨V2.heap.size, 2, none⟩) (by simp; omega) (.int .i64 a)).away (p := ⟨V2.heap.size, 3, none⟩) (by simp; omega) (.int .i64 b))
          replace hE := hE'
          clear hE'
          generalize ((((V4.setCell ⟨V2.heap.size, 0, none⟩ (.int .i64 s)).setCell ⟨V2.heap.size, 1, none⟩ (.int .i64 t)).setCell ⟨V2.heap.size, 2, none⟩ (.int .i64 a)).setCell ⟨V2.heap.size, 3, none⟩ (.int .i64 b)) = V5 at *
          refine wpAnyH_ready (rs := [7]) (by kernel_rfl) (by simp) ?_
          refine (AllReadyH.cons rfl (fun K hK => ?_) AllReadyH.nil)
          obtain ⟨⟨r0, r1, r2, r3⟩, s0, s1, s2, s3⟩ := P5.four
          go_simp
          have hE' : Ext W0 ((((V5.setCell ⟨V1.heap.size, 0, none⟩ (.int .i64 x)).setCell ⟨V1.heap.size, 1, none⟩ (.int .i64 y)).setCell ⟨V1.heap.size, 2, none⟩ (.int .i64 p)).setCell ⟨V1.heap.size, 3, none⟩ (.int .i64 q)) := ((((hE.setNew (by first | omega | (simp; omega) | simp) _).setNew (by first | omega | (simp; omega) | simp) _).setNew (by first | omega | (simp; omega) | simp) _).setNew (by first | omega | (simp; omega) | simp) _)
          refine hK.out _ _ hE' (fun hHeld => ?_)
          clear hK K r0 r1 r2 r3 s0 s1 s2 s3
          (try simp only [Act.put, Ord.a, Ord.b, Ord.c])
          replace P5 := P5.set4 (a := .int .i64 x) (b := .int .i64 y) (c := .int .i64 p) (d := .int .i64 q)
          replace P4 := ((((P4.away (p := ⟨V1.heap.size, 0, none⟩) (by simp; omega) (.int .i64 x)).away (p := ⟨V1.heap.size, 1, none⟩) (by simp; omega) (.int .i64 y)).away (p := ⟨V1.heap.size, 2, none⟩) (by simp; omega) (.int .i64 p)).away (p := ⟨V1.heap.size, 3, none⟩) (by simp; omega) (.int .i64 q))
          replace hE := hE'
          clear hE'
          generalize ((((V5.setCell ⟨V1.heap.size, 0, none⟩ (.int .i64 x)).setCell ⟨V1.heap.size, 1, none⟩ (.int .i64 y)).setCell ⟨V1.heap.size, 2, none⟩ (.int .i64 p)).setCell ⟨V1.heap.size, 3, none⟩ (.int .i64 q)) = V6 at *
          refine wpAnyH_done (by kernel_rfl) ?_ _
          go_wp2_with fail; go_meet; exact ⟨⟨_, _, rfl, rfl, P4, P5⟩, hE⟩
    · go_simp
      have hy : Ext V0 (V0.alloc (.cells #[.int .i64 0, .int .i64 0, .int .i64 0, .int .i64 0] 144)) := (Ext.refl V0).alloc _
      have hE' := hE.trans hy
      refine hK.out _ _ hE' (fun hHeld => ?_)
      clear hK K
      (try simp only [Act.put, Ord.a, Ord.b, Ord.c])
      have P4 : Box (V0.alloc (.cells #[.int .i64 0, .int .i64 0, .int .i64 0, .int .i64 0] 144)) V0.heap.size [.int .i64 0, .int .i64 0, .int .i64 0, .int .i64 0] := Box.new (vs := [.int .i64 0, .int .i64 0, .int .i64 0, .int .i64 0]) rfl
      have z4 := Ext.size hE
      have y4 : V0.heap.size < (V0.alloc (.cells #[.int .i64 0, .int .i64 0, .int .i64 0, .int .i64 0] 144)).heap.size := by simp
      replace hE := hE'
      clear hE' hy
      generalize V0.alloc (.cells #[.int .i64 0, .int .i64 0, .int .i64 0, .int .i64 0] 144) = V1 at *
      refine wpAnyH_ready (rs := [1, 5]) (by kernel_rfl) (by simp) ?_
      refine (AllReadyH.cons rfl (fun K hK => ?_) (AllReadyH.cons rfl (fun K hK => ?_) AllReadyH.nil))
      · go_simp
        go_at_call 122
        refine (PA.out _).mono ?_
        rintro e V2 ⟨rfl, hy⟩
        go_wp2_with fail
        have zy := Ext.size hy
        have hE' := hE.trans hy
        refine hK.out _ _ hE' (fun hHeld => ?_)
        clear hK K
        (try simp only [Act.put, Ord.a, Ord.b, Ord.c])
        replace P4 := P4.ext hy
        replace hE := hE'
        clear hE' hy
        refine wpAnyH_ready (rs := [3, 5]) (by kernel_rfl) (by simp) ?_
        refine (AllReadyH.cons rfl (fun K hK => ?_) (AllReadyH.cons rfl (fun K hK => ?_) AllReadyH.nil))
        · go_simp
          go_at_call 122
          refine (PB.out _).mono ?_
          rintro e V3 ⟨rfl, hy⟩
          go_wp2_with fail
          have zy := Ext.size hy
          have hE' := hE.trans hy
          refine hK.out _ _ hE' (fun hHeld => ?_)
          clear hK K
          (try simp only [Act.put, Ord.a, Ord.b, Ord.c])
          replace P4 := P4.ext hy
          replace hE := hE'
          clear hE' hy
          refine wpAnyH_ready (rs := [5]) (by kernel_rfl) (by simp) ?_
          refine (AllReadyH.cons rfl (fun K hK => ?_) AllReadyH.nil)
          go_simp
          have hy : Ext V3 (V3.alloc (.cells #[.int .i64 0, .int .i64 0, .int .i64 0, .int .i64 0] 144)) := (Ext.refl V3).alloc _
          have hE' := hE.trans hy
          refine hK.out _ _ hE' (fun hHeld => ?_)
          clear hK K
          (try simp only [Act.put, Ord.a, Ord.b, Ord.c])
          replace P4 := P4.ext hy
          have P5 : Box (V3.alloc (.cells #[.int .i64 0, .int .i64 0, .int .i64 0, .int .i64 0] 144)) V3.heap.size [.int .i64 0, .int .i64 0, .int .i64 0, .int .i64 0] := Box.new (vs := [.int .i64 0, .int .i64 0, .int .i64 0, .int .i64 0]) rfl
          have z5 := Ext.size hE
          have y5 : V3.heap.size < (V3.alloc (.cells #[.int .i64 0, .int .i64 0, .int .i64 0, .int .i64 0] 144)).heap.size := by simp
          replace hE := hE'
          clear hE' hy
          generalize V3.alloc (.cells #[.int .i64 0, .int .i64 0, .int .i64 0, .int .i64 0] 144) = V4 at *
          refine wpAnyH_ready (rs := [6]) (by kernel_rfl) (by simp) ?_
          refine (AllReadyH.cons rfl (fun K hK => ?_) AllReadyH.nil)
          obtain ⟨⟨r0, r1, r2, r3⟩, s0, s1, s2, s3⟩ := P4.four
          go_simp
          have hE' : Ext W0 ((((V4.setCell ⟨V0.heap.size, 0, none⟩ (.int .i64 s)).setCell ⟨V0.heap.size, 1, none⟩ (.int .i64 t)).setCell ⟨V0.heap.size, 2, none⟩ (.int .i64 a)).setCell ⟨V0.heap.size, 3, none⟩ (.int .i64 b)) := ((((hE.setNew (by first | omega | (simp; omega) | simp) _).setNew (by first | omega | (simp; omega) | simp) _).setNew (by first | omega | (simp; omega) | simp) _).setNew (by first | omega | (simp; omega) | simp) _)
          refine hK.out _ _ hE' (fun hHeld => ?_)
          clear hK K r0 r1 r2 r3 s0 s1 s2 s3
          (try simp only [Act.put, Ord.a, Ord.b, Ord.c])
          replace P4 := P4.set4 (a := .int .i64 s) (b := .int .i64 t) (c := .int .i64 a) (d := .int .i64 b)
          replace P5 := ((((P5.away (p := ⟨V0.heap.size, 0, none⟩) (by simp; omega) (.int .i64 s)).away (p := ⟨V0.heap.size, 1, none⟩) (by simp; omega) (.int .i64 t)).away (p := ⟨V0.heap.size, 2, none⟩) (by simp; omega) (.int .i64 a)).away (p := ⟨V0.heap.size, 3, none⟩) (by simp; omega) (.int .i64 b))
          replace hE := hE'
          clear hE'
          generalize ((((V4.setCell ⟨V0.heap.size, 0, none⟩ (.int .i64 s)).setCell ⟨V0.heap.size, 1, none⟩ (.int .i64 t)).setCell ⟨V0.heap.size, 2, none⟩ (.int .i64 a)).setCell ⟨V0.heap.size, 3, none⟩ (.int .i64 b)) = V5 at *
          refine wpAnyH_ready (rs := [7]) (by kernel_rfl) (by simp) ?_
          refine (AllReadyH.cons rfl (fun K hK => ?_) AllReadyH.nil)
          obtain ⟨⟨r0, r1, r2, r3⟩, s0, s1, s2, s3⟩ := P5.four
          go_simp
          have hE' : Ext W0 ((((V5.setCell ⟨V3.heap.size, 0, none⟩ (.int .i64 x)).setCell ⟨V3.heap.size, 1, none⟩ (.int .i64 y)).setCell ⟨V3.heap.size, 2, none⟩ (.int .i64 p)).setCell ⟨V3.heap.size, 3, none⟩ (.int .i64 q)) := ((((hE.setNew (by first | omega | (simp; omega) | simp) _).setNew (by first | omega | (simp; omega) | simp) _).setNew (by first | omega | (simp; omega) | simp) _).setNew (by first | omega | (simp; omega) | simp) _)
          refine hK.out _ _ hE' (fun hHeld => ?_)
          clear hK K r0 r1 r2 r3 s0 s1 s2 s3
          (try simp only [Act.put, Ord.a, Ord.b, Ord.c])
          replace P5 := P5.set4 (a := .int .i64 x) (b := .int .i64 y) (c := .int .i64 p) (d := .int .i64 q)
          replace P4 := ((((P4.away (p := ⟨V3.heap.size, 0, none⟩) (by simp; omega) (.int .i64 x)).away (p := ⟨V3.heap.size, 1, none⟩) (by simp; omega) (.int .i64 y)).away (p := ⟨V3.heap.size, 2, none⟩) (by simp; omega) (.int .i64 p)).away (p := ⟨V3.heap.size, 3, none⟩) (by simp; omega) (.int .i64 q))
          replace hE := hE'
          clear hE'
          generalize ((((V5.setCell ⟨V3.heap.size, 0, none⟩ (.int .i64 x)).setCell ⟨V3.heap.size, 1, none⟩ (.int .i64 y)).setCell ⟨V3.heap.size, 2, none⟩ (.int .i64 p)).setCell ⟨V3.heap.size, 3, none⟩ (.int .i64 q)) = V6 at *
          refine wpAnyH_done (by kernel_rfl) ?_ _
          go_wp2_with fail; go_meet; exact ⟨⟨_, _, rfl, rfl, P4, P5⟩, hE⟩
        · go_simp
          have hy : Ext V2 (V2.alloc (.cells #[.int .i64 0, .int .i64 0, .int .i64 0, .int .i64 0] 144)) := (Ext.refl V2).alloc _
          have hE' := hE.trans hy
          refine hK.out _ _ hE' (fun hHeld => ?_)
          clear hK K
          (try simp only [Act.put, Ord.a, Ord.b, Ord.c])
          replace P4 := P4.ext hy
          have P5 : Box (V2.alloc (.cells #[.int .i64 0, .int .i64 0, .int .i64 0, .int .i64 0] 144)) V2.heap.size [.int .i64 0, .int .i64 0, .int .i64 0, .int .i64 0] := Box.new (vs := [.int .i64 0, .int .i64 0, .int .i64 0, .int .i64 0]) rfl
          have z5 := Ext.size hE
          have y5 : V2.heap.size < (V2.alloc (.cells #[.int .i64 0, .int .i64 0, .int .i64 0, .int .i64 0] 144)).heap.size := by simp
          replace hE := hE'
          clear hE' hy
          generalize V2.alloc (.cells #[.int .i64 0, .int .i64 0, .int .i64 0, .int .i64 0] 144) = V3 at *
          refine wpAnyH_ready (rs := [3]) (by kernel_rfl) (by simp) ?_
          refine (AllReadyH.cons rfl (fun K hK => ?_) AllReadyH.nil)
          go_simp
          go_at_call 122
          refine (PB.out _).mono ?_
          rintro e V4 ⟨rfl, hy⟩
          go_wp2_with fail
          have zy := Ext.size hy
          have hE' := hE.trans hy
          refine hK.out _ _ hE' (fun hHeld => ?_)
          clear hK K
          (try simp only [Act.put, Ord.a, Ord.b, Ord.c])
          replace P4 := P4.ext hy
          replace P5 := P5.ext hy
          replace hE := hE'
          clear hE' hy
          refine wpAnyH_ready (rs := [6]) (by kernel_rfl) (by simp) ?_
          refine (AllReadyH.cons rfl (fun K hK => ?_) AllReadyH.nil)
          obtain ⟨⟨r0, r1, r2, r3⟩, s0, s1, s2, s3⟩ := P4.four
          go_simp
          have hE' : Ext W0 ((((V4.setCell ⟨V0.heap.size, 0, none⟩ (.int .i64 s)).setCell ⟨V0.heap.size, 1, none⟩ (.int .i64 t)).setCell ⟨V0.heap.size, 2, none⟩ (.int .i64 a)).setCell ⟨V0.heap.size, 3, none⟩ (.int .i64 b)) := ((((hE.setNew (by first | omega | (simp; omega) | simp) _).setNew (by first | omega | (simp; omega) | simp) _).setNew (by first | omega | (simp; omega) | simp) _).setNew (by first | omega | (simp; omega) | simp) _)
          refine hK.out _ _ hE' (fun hHeld => ?_)
          clear hK K r0 r1 r2 r3 s0 s1 s2 s3
          (try simp only [Act.put, Ord.a, Ord.b, Ord.c])
          replace P4 := P4.set4 (a := .int .i64 s) (b := .int .i64 t) (c := .int .i64 a) (d := .int .i64 b)
          replace P5 := ((((P5.away (p := ⟨V0.heap.size, 0, none⟩) (by simp; omega) (.int .i64 s)).away (p := ⟨V0.heap.size, 1, none⟩) (by simp; omega) (.int .i64 t)).away (p := ⟨V0.heap.size, 2, none⟩) (by simp; omega) (.int .i64 a)).away (p := ⟨V0.heap.size, 3, none⟩) (by simp; omega) (.int .i64 b))
          replace hE := hE'
          clear hE'
          generalize ((((V4.setCell ⟨V0.heap.size, 0, none⟩ (.int .i64 s)).setCell ⟨V0.heap.size, 1, none⟩ (.int .i64 t)).setCell ⟨V0.heap.size, 2, none⟩ (.int .i64 a)).setCell ⟨V0.heap.size, 3, none⟩ (.int .i64 b)) = V5 at *
          refine wpAnyH_ready (rs := [7]) (by kernel_rfl) (by simp) ?_
          refine (AllReadyH.cons rfl (fun K hK => ?_) AllReadyH.nil)
          obtain ⟨⟨r0, r1, r2, r3⟩, s0, s1, s2, s3⟩ := P5.four
          go_simp
          have hE' : Ext W0 ((((V5.setCell ⟨V2.heap.size, 0, none⟩ (.int .i64 x)).setCell ⟨V2.heap.size, 1, none⟩ (.int .i64 y)).setCell ⟨V2.heap.size, 2, none⟩ (.int .i64 p)).setCell ⟨V2.heap.size, 3, none⟩ (.int .i64 q)) := ((((hE.setNew (by first | omega | (simp; omega) | simp) _).setNew (by first | omega | (simp; omega) | simp) _).setNew (by first | omega | (simp; omega) | simp) _).setNew (by first | omega | (simp; omega) | simp) _)
          refine hK.out _ _ hE' (fun hHeld => ?_)
          clear hK K r0 r1 r2 r3 s0 s1 s2 s3
          (try simp only [Act.put, Ord.a, Ord.b, Ord.c])
          replace P5 := P5.set4 (a := .int .i64 x) (b := .int .i64 y) (c := .int .i64 p) (d := .int .i64 q)
          replace P4 := ((((P4.away (p := ⟨V2.heap.size, 0, none⟩) (by simp; omega) (.int .i64 x)).away (p := ⟨V2.heap.size, 1, none⟩) (by simp; omega) (.int .i64 y)).away (p := ⟨V2.heap.size, 2, none⟩) (by simp; omega) (.int .i64 p)).away (p := ⟨V2.heap.size, 3, none⟩) (by simp; omega) (.int .i64 q))
          replace hE := hE'
          clear hE'
          generalize ((((V5.setCell ⟨V2.heap.size, 0, none⟩ (.int .i64 x)).setCell ⟨V2.heap.size, 1, none⟩ (.int .i64 y)).setCell ⟨V2.heap.size, 2, none⟩ (.int .i64 p)).setCell ⟨V2.heap.size, 3, none⟩ (.int .i64 q)) = V6 at *
          refine wpAnyH_done (by kernel_rfl) ?_ _
          go_wp2_with fail; go_meet; exact ⟨⟨_, _, rfl, rfl, P4, P5⟩, hE⟩
      · go_simp
        have hy : Ext V1 (V1.alloc (.cells #[.int .i64 0, .int .i64 0, .int .i64 0, .int .i64 0] 144)) := (Ext.refl V1).alloc _
        have hE' := hE.trans hy
        refine hK.out _ _ hE' (fun hHeld => ?_)
        clear hK K
        (try simp only [Act.put, Ord.a, Ord.b, Ord.c])
        replace P4 := P4.ext hy
        have P5 : Box (V1.alloc (.cells #[.int .i64 0, .int .i64 0, .int .i64 0, .int .i64 0] 144)) V1.heap.size [.int .i64 0, .int .i64 0, .int .i64 0, .int .i64 0] := Box.new (vs := [.int .i64 0, .int .i64 0, .int .i64 0, .int .i64 0]) rfl
        have z5 := Ext.size hE
        have y5 : V1.heap.size < (V1.alloc (.cells #[.int .i64 0, .int .i64 0, .int .i64 0, .int .i64 0] 144)).heap.size := by simp
        replace hE := hE'
        clear hE' hy
        generalize V1.alloc (.cells #[.int .i64 0, .int .i64 0, .int .i64 0, .int .i64 0] 144) = V2 at *
        refine wpAnyH_ready (rs := [1]) (by kernel_rfl) (by simp) ?_
        refine (AllReadyH.cons rfl (fun K hK => ?_) AllReadyH.nil)
        go_simp
        go_at_call 122
        refine (PA.out _).mono ?_
        rintro e V3 ⟨rfl, hy⟩
        go_wp2_with fail
        have zy := Ext.size hy
        have hE' := hE.trans hy
        refine hK.out _ _ hE' (fun hHeld => ?_)
        clear hK K
        (try simp only [Act.put, Ord.a, Ord.b, Ord.c])
        replace P4 := P4.ext hy
        replace P5 := P5.ext hy
        replace hE := hE'
        clear hE' hy
        refine wpAnyH_ready (rs := [3]) (by kernel_rfl) (by simp) ?_
        refine (AllReadyH.cons rfl (fun K hK => ?_) AllReadyH.nil)
        go_simp
        go_at_call 122
        refine (PB.out _).mono ?_
        rintro e V4 ⟨rfl, hy⟩
        go_wp2_with fail
        have zy := Ext.size hy
        have hE' := hE.trans hy
        refine hK.out _ _ hE' (fun hHeld => ?_)
        clear hK K
        (try simp only [Act.put, Ord.a, Ord.b, Ord.c])
        replace P4 := P4.ext hy
        replace P5 := P5.ext hy
        replace hE := hE'
        clear hE' hy
        refine wpAnyH_ready (rs := [6]) (by kernel_rfl) (by simp) ?_
        refine (AllReadyH.cons rfl (fun K hK => ?_) AllReadyH.nil)
        obtain ⟨⟨r0, r1, r2, r3⟩, s0, s1, s2, s3⟩ := P4.four
        go_simp
        have hE' : Ext W0 ((((V4.setCell ⟨V0.heap.size, 0, none⟩ (.int .i64 s)).setCell ⟨V0.heap.size, 1, none⟩ (.int .i64 t)).setCell ⟨V0.heap.size, 2, none⟩ (.int .i64 a)).setCell ⟨V0.heap.size, 3, none⟩ (.int .i64 b)) := ((((hE.setNew (by first | omega | (simp; omega) | simp) _).setNew (by first | omega | (simp; omega) | simp) _).setNew (by first | omega | (simp; omega) | simp) _).setNew (by first | omega | (simp; omega) | simp) _)
        refine hK.out _ _ hE' (fun hHeld => ?_)
        clear hK K r0 r1 r2 r3 s0 s1 s2 s3
        (try simp only [Act.put, Ord.a, Ord.b, Ord.c])
        replace P4 := P4.set4 (a := .int .i64 s) (b := .int .i64 t) (c := .int .i64 a) (d := .int .i64 b)
        replace P5 := ((((P5.away (p := ⟨V0.heap.size, 0, none⟩) (by simp; omega) (.int .i64 s)).away (p := ⟨V0.heap.size, 1, none⟩) (by simp; omega) (.int .i64 t)).away (p := ⟨V0.heap.size, 2, none⟩) (by simp; omega) (.int .i64 a)).away (p := ⟨V0.heap.size, 3, none⟩) (by simp; omega) (.int .i64 b))
        replace hE := hE'
        clear hE'
        generalize ((((V4.setCell ⟨V0.heap.size, 0, none⟩ (.int .i64 s)).setCell ⟨V0.heap.size, 1, none⟩ (.int .i64 t)).setCell ⟨V0.heap.size, 2, none⟩ (.int .i64 a)).setCell ⟨V0.heap.size, 3, none⟩ (.int .i64 b)) = V5 at *
        refine wpAnyH_ready (rs := [7]) (by kernel_rfl) (by simp) ?_
        refine (AllReadyH.cons rfl (fun K hK => ?_) AllReadyH.nil)
        obtain ⟨⟨r0, r1, r2, r3⟩, s0, s1, s2, s3⟩ := P5.four
        go_simp
        have hE' : Ext W0 ((((V5.setCell ⟨V1.heap.size, 0, none⟩ (.int .i64 x)).setCell ⟨V1.heap.size, 1, none⟩ (.int .i64 y)).setCell ⟨V1.heap.size, 2, none⟩ (.int .i64 p)).setCell ⟨V1.heap.size, 3, none⟩ (.int .i64 q)) := ((((hE.setNew (by first | omega | (simp; omega) | simp) _).setNew (by first | omega | (simp; omega) | simp) _).setNew (by first | omega | (simp; omega) | simp) _).setNew (by first | omega | (simp; omega) | simp) _)
        refine hK.out _ _ hE' (fun hHeld => ?_)
        clear hK K r0 r1 r2 r3 s0 s1 s2 s3
        (try simp only [Act.put, Ord.a, Ord.b, Ord.c])
        replace P5 := P5.set4 (a := .int .i64 x) (b := .int .i64 y) (c := .int .i64 p) (d := .int .i64 q)
        replace P4 := ((((P4.away (p := ⟨V1.heap.size, 0, none⟩) (by simp; omega) (.int .i64 x)).away (p := ⟨V1.heap.size, 1, none⟩) (by simp; omega) (.int .i64 y)).away (p := ⟨V1.heap.size, 2, none⟩) (by simp; omega) (.int .i64 p)).away (p := ⟨V1.heap.size, 3, none⟩) (by simp; omega) (.int .i64 q))
        replace hE := hE'
        clear hE'
        generalize ((((V5.setCell ⟨V1.heap.size, 0, none⟩ (.int .i64 x)).setCell ⟨V1.heap.size, 1, none⟩ (.int .i64 y)).setCell ⟨V1.heap.size, 2, none⟩ (.int .i64 p)).setCell ⟨V1.heap.size, 3, none⟩ (.int .i64 q)) = V6 at *
        refine wpAnyH_done (by kernel_rfl) ?_ _
        go_wp2_with fail; go_meet; exact ⟨⟨_, _, rfl, rfl, P4, P5⟩, hE⟩
    · go_simp
      have hy : Ext V0 (V0.alloc (.cells #[.int .i64 0, .int .i64 0, .int .i64 0, .int .i64 0] 144)) := (Ext.refl V0).alloc _
      have hE' := hE.trans hy
      refine hK.out _ _ hE' (fun hHeld => ?_)
      clear hK K
      (try simp only [Act.put, Ord.a, Ord.b, Ord.c])
      have P5 : Box (V0.alloc (.cells #[.int .i64 0, .int .i64 0, .int .i64 0, .int .i64 0] 144)) V0.heap.size [.int .i64 0, .int .i64 0, .int .i64 0, .int .i64 0] := Box.new (vs := [.int .i64 0, .int .i64 0, .int .i64 0, .int .i64 0]) rfl
      have z5 := Ext.size hE
      have y5 : V0.heap.size < (V0.alloc (.cells #[.int .i64 0, .int .i64 0, .int .i64 0, .int .i64 0] 144)).heap.size := by simp
      replace hE := hE'
      clear hE' hy
      generalize V0.alloc (.cells #[.int .i64 0, .int .i64 0, .int .i64 0, .int .i64 0] 144) = V1 at *
      refine wpAnyH_ready (rs := [1, 4]) (by kernel_rfl) (by simp) ?_
      refine (AllReadyH.cons rfl (fun K hK => ?_) (AllReadyH.cons rfl (fun K hK => ?_) AllReadyH.nil))
      · go_simp
        go_at_call 122
        refine (PA.out _).mono ?_
        rintro e V2 ⟨rfl, hy⟩
        go_wp2_with fail
        have zy := Ext.size hy
        have hE' := hE.trans hy
        refine hK.out _ _ hE' (fun hHeld => ?_)
        clear hK K
        (try simp only [Act.put, Ord.a, Ord.b, Ord.c])
        replace P5 := P5.ext hy
        replace hE := hE'
        clear hE' hy
        refine wpAnyH_ready (rs := [3, 4]) (by kernel_rfl) (by simp) ?_
        refine (AllReadyH.cons rfl (fun K hK => ?_) (AllReadyH.cons rfl (fun K hK => ?_) AllReadyH.nil))
        · go_simp
          go_at_call 122
          refine (PB.out _).mono ?_
          rintro e V3 ⟨rfl, hy⟩
          go_wp2_with fail
          have zy := Ext.size hy
          have hE' := hE.trans hy
          refine hK.out _ _ hE' (fun hHeld => ?_)
          clear hK K
          (try simp only [Act.put, Ord.a, Ord.b, Ord.c])
          replace P5 := P5.ext hy
          replace hE := hE'
          clear hE' hy
          refine wpAnyH_ready (rs := [4]) (by kernel_rfl) (by simp) ?_
          refine (AllReadyH.cons rfl (fun K hK => ?_) AllReadyH.nil)
          go_simp
          have hy : Ext V3 (V3.alloc (.cells #[.int .i64 0, .int .i64 0, .int .i64 0, .int .i64 0] 144)) := (Ext.refl V3).alloc _
          have hE' := hE.trans hy
          refine hK.out _ _ hE' (fun hHeld => ?_)
          clear hK K
          (try simp only [Act.put, Ord.a, Ord.b, Ord.c])
          replace P5 := P5.ext hy
          have P4 : Box (V3.alloc (.cells #[.int .i64 0, .int .i64 0, .int .i64 0, .int .i64 0] 144)) V3.heap.size [.int .i64 0, .int .i64 0, .int .i64 0, .int .i64 0] := Box.new (vs := [.int .i64 0, .int .i64 0, .int .i64 0, .int .i64 0]) rfl
          have z4 := Ext.size hE
          have y4 : V3.heap.size < (V3.alloc (.cells #[.int .i64 0, .int .i64 0, .int .i64 0, .int .i64 0] 144)).heap.size := by simp
          replace hE := hE'
          clear hE' hy
          generalize V3.alloc (.cells #[.int .i64 0, .int .i64 0, .int .i64 0, .int .i64 0] 144) = V4 at *
          refine wpAnyH_ready (rs := [6]) (by kernel_rfl) (by simp) ?_
          refine (AllReadyH.cons rfl (fun K hK => ?_) AllReadyH.nil)
          obtain ⟨⟨r0, r1, r2, r3⟩, s0, s1, s2, s3⟩ := P4.four
          go_simp
          have hE' : Ext W0 ((((V4.setCell ⟨V3.heap.size, 0, none⟩ (.int .i64 s)).setCell ⟨V3.heap.size, 1, none⟩ (.int .i64 t)).setCell ⟨V3.heap.size, 2, none⟩ (.int .i64 a)).setCell ⟨V3.heap.size, 3, none⟩ (.int .i64 b)) := ((((hE.setNew (by first | omega | (simp; omega) | simp) _).setNew (by first | omega | (simp; omega) | simp) _).setNew (by first | omega | (simp; omega) | simp) _).setNew (by first | omega | (simp; omega) | simp) _)
          refine hK.out _ _ hE' (fun hHeld => ?_)
          clear hK K r0 r1 r2 r3 s0 s1 s2 s3
          (try simp only [Act.put, Ord.a, Ord.b, Ord.c])
          replace P4 := P4.set4 (a := .int .i64 s) (b := .int .i64 t) (c := .int .i64 a) (d := .int .i64 b)
          replace P5 := ((((P5.away (p := ⟨V3.heap.size, 0, none⟩) (by simp; omega) (.int .i64 s)).away (p := ⟨V3.heap.size, 1, none⟩) (by simp; omega) (.int .i64 t)).away (p := ⟨V3.heap.size, 2, none⟩) (by simp; omega) (.int .i64 a)).away (p := ⟨V3.heap.size, 3, none⟩) (by simp; omega) (.int .i64 b))
          replace hE := hE'
          clear hE'
          generalize ((((V4.setCell ⟨V3.heap.size, 0, none⟩ (.int .i64 s)).setCell ⟨V3.heap.size, 1, none⟩ (.int .i64 t)).setCell ⟨V3.heap.size, 2, none⟩ (.int .i64 a)).setCell ⟨V3.heap.size, 3, none⟩ (.int .i64 b)) = V5 at *
          refine wpAnyH_ready (rs := [7]) (by kernel_rfl) (by simp) ?_
          refine (AllReadyH.cons rfl (fun K hK => ?_) AllReadyH.nil)
          obtain ⟨⟨r0, r1, r2, r3⟩, s0, s1, s2, s3⟩ := P5.four
          go_simp
          have hE' : Ext W0 ((((V5.setCell ⟨V0.heap.size, 0, none⟩ (.int .i64 x)).setCell ⟨V0.heap.size, 1, none⟩ (.int .i64 y)).setCell ⟨V0.heap.size, 2, none⟩ (.int .i64 p)).setCell ⟨V0.heap.size, 3, none⟩ (.int .i64 q)) := ((((hE.setNew (by first | omega | (simp; omega) | simp) _).setNew (by first | omega | (simp; omega) | simp) _).setNew (by first | omega | (simp; omega) | simp) _).setNew (by first | omega | (simp; omega) | simp) _)
          refine hK.out _ _ hE' (fun hHeld => ?_)
          clear hK K r0 r1 r2 r3 s0 s1 s2 s3
          (try simp only [Act.put, Ord.a, Ord.b, Ord.c])
          replace P5 := P5.set4 (a := .int .i64 x) (b := .int .i64 y) (c := .int .i64 p) (d := .int .i64 q)
          replace P4 := ((((P4.away (p := ⟨V0.heap.size, 0, none⟩) (by simp; omega) (.int .i64 x)).away (p := ⟨V0.heap.size, 1, none⟩) (by simp; omega) (.int .i64 y)).away (p := ⟨V0.heap.size, 2, none⟩) (by simp; omega) (.int .i64 p)).away (p := ⟨V0.heap.size, 3, none⟩) (by simp; omega) (.int .i64 q))
          replace hE := hE'
          clear hE'
          generalize ((((V5.setCell ⟨V0.heap.size, 0, none⟩ (.int .i64 x)).setCell ⟨V0.heap.size, 1, none⟩ (.int .i64 y)).setCell ⟨V0.heap.size, 2, none⟩ (.int .i64 p)).setCell ⟨V0.heap.size, 3, none⟩ (.int .i64 q)) = V6 at *
          refine wpAnyH_done (by kernel_rfl) ?_ _
          go_wp2_with fail; go_meet; exact ⟨⟨_, _, rfl, rfl, P4, P5⟩, hE⟩
        · go_simp
          have hy : Ext V2 (V2.alloc (.cells #[.int .i64 0, .int .i64 0, .int .i64 0, .int .i64 0] 144)) := (Ext.refl V2).alloc _
          have hE' := hE.trans hy
          refine hK.out _ _ hE' (fun hHeld => ?_)
          clear hK K
          (try simp only [Act.put, Ord.a, Ord.b, Ord.c])
          replace P5 := P5.ext hy
          have P4 : Box (V2.alloc (.cells #[.int .i64 0, .int .i64 0, .int .i64 0, .int .i64 0] 144)) V2.heap.size [.int .i64 0, .int .i64 0, .int .i64 0, .int .i64 0] := Box.new (vs := [.int .i64 0, .int .i64 0, .int .i64 0, .int .i64 0]) rfl
          have z4 := Ext.size hE
          have y4 : V2.heap.size < (V2.alloc (.cells #[.int .i64 0, .int .i64 0, .int .i64 0, .int .i64 0] 144)).heap.size := by simp
          replace hE := hE'
          clear hE' hy
          generalize V2.alloc (.cells #[.int .i64 0, .int .i64 0, .int .i64 0, .int .i64 0] 144) = V3 at *
          refine wpAnyH_ready (rs := [3]) (by kernel_rfl) (by simp) ?_
          refine (AllReadyH.cons rfl (fun K hK => ?_) AllReadyH.nil)
          go_simp
          go_at_call 122
          refine (PB.out _).mono ?_
          rintro e V4 ⟨rfl, hy⟩
          go_wp2_with fail
          have zy := Ext.size hy
          have hE' := hE.trans hy
          refine hK.out _ _ hE' (fun hHeld => ?_)
          clear hK K
          (try simp only [Act.put, Ord.a, Ord.b, Ord.c])
          replace P5 := P5.ext hy
          replace P4 := P4.ext hy
          replace hE := hE'
          clear hE' hy
          refine wpAnyH_ready (rs := [6]) (by kernel_rfl) (by simp) ?_
          refine (AllReadyH.cons rfl (fun K hK => ?_) AllReadyH.nil)
          obtain ⟨⟨r0, r1, r2, r3⟩, s0, s1, s2, s3⟩ := P4.four
          go_simp
          have hE' : Ext W0 ((((V4.setCell ⟨V2.heap.size, 0, none⟩ (.int .i64 s)).setCell ⟨V2.heap.size, 1, none⟩ (.int .i64 t)).setCell ⟨V2.heap.size, 2, none⟩ (.int .i64 a)).setCell ⟨V2.heap.size, 3, none⟩ (.int .i64 b)) := ((((hE.setNew (by first | omega | (simp; omega) | simp) _).setNew (by first | omega | (simp; omega) | simp) _).setNew (by first | omega | (simp; omega) | simp) _).setNew (by first | omega | (simp; omega) | simp) _)
          refine hK.out _ _ hE' (fun hHeld => ?_)
          clear hK K r0 r1 r2 r3 s0 s1 s2 s3
          (try simp only [Act.put, Ord.a, Ord.b, Ord.c])
          replace P4 := P4.set4 (a := .int .i64 s) (b := .int .i64 t) (c := .int .i64 a) (d := .int .i64 b)
          replace P5 := ((((P5.away (p := ⟨V2.heap.size, 0, none⟩) (by simp; omega) (.int .i64 s)).away (p := ⟨V2.heap.size, 1, none⟩) (by simp; omega) (.int .i64 t)).away (p := ⟨V2.heap.size, 2, none⟩) (by simp; omega) (.int .i64 a)).away (p := ⟨V2.heap.size, 3, none⟩) (by simp; omega) (.int .i64 b))
          replace hE := hE'
          clear hE'
          generalize ((((V4.setCell ⟨V2.heap.size, 0, none⟩ (.int .i64 s)).setCell ⟨V2.heap.size, 1, none⟩ (.int .i64 t)).setCell ⟨V2.heap.size, 2, none⟩ (.int .i64 a)).setCell ⟨V2.heap.size, 3, none⟩ (.int .i64 b)) = V5 at *
          refine wpAnyH_ready (rs := [7]) (by kernel_rfl) (by simp) ?_
          refine (AllReadyH.cons rfl (fun K hK => ?_) AllReadyH.nil)
          obtain ⟨⟨r0, r1, r2, r3⟩, s0, s1, s2, s3⟩ := P5.four
          go_simp
          have hE' : Ext W0 ((((V5.setCell ⟨V0.heap.size, 0, none⟩ (.int .i64 x)).setCell ⟨V0.heap.size, 1, none⟩ (.int .i64 y)).setCell ⟨V0.heap.size, 2, none⟩ (.int .i64 p)).setCell ⟨V0.heap.size, 3, none⟩ (.int .i64 q)) := ((((hE.setNew (by first | omega | (simp; omega) | simp) _).setNew (by first | omega | (simp; omega) | simp) _).setNew (by first | omega | (simp; omega) | simp) _).setNew (by first | omega | (simp; omega) | simp) _)
          refine hK.out _ _ hE' (fun hHeld => ?_)
          clear hK K r0 r1 r2 r3 s0 s1 s2 s3
          (try simp only [Act.put, Ord.a, Ord.b, Ord.c])
          replace P5 := P5.set4 (a := .int .i64 x) (b := .int .i64 y) (c := .int .i64 p) (d := .int .i64 q)
          replace P4 := ((((P4.away (p := ⟨V0.heap.size, 0, none⟩) (by simp; omega) (.int .i64 x)).away (p := ⟨V0.heap.size, 1, none⟩) (by simp; omega) (.int .i64 y)).away (p := ⟨V0.heap.size, 2, none⟩) (by simp; omega) (.int .i64 p)).away (p := ⟨V0.heap.size, 3, none⟩) (by simp; omega) (.int .i64 q))
          replace hE := hE'
          clear hE'
          generalize ((((V5.setCell ⟨V0.heap.size, 0, none⟩ (.int .i64 x)).setCell ⟨V0.heap.size, 1, none⟩ (.int .i64 y)).setCell ⟨V0.heap.size, 2, none⟩ (.int .i64 p)).setCell ⟨V0.heap.size, 3, none⟩ (.int .i64 q)) = V6 at *
          refine wpAnyH_done (by kernel_rfl) ?_ _
          go_wp2_with fail; go_meet; exact ⟨⟨_, _, rfl, rfl, P4, P5⟩, hE⟩
      · go_simp
        have hy : Ext V1 (V1.alloc (.cells #[.int .i64 0, .int .i64 0, .int .i64 0, .int .i64 0] 144)) := (Ext.refl V1).alloc _
        have hE' := hE.trans hy
        refine hK.out _ _ hE' (fun hHeld => ?_)
        clear hK K
        (try simp only [Act.put, Ord.a, Ord.b, Ord.c])
        replace P5 := P5.ext hy
        have P4 : Box (V1.alloc (.cells #[.int .i64 0, .int .i64 0, .int .i64 0, .int .i64 0] 144)) V1.heap.size [.int .i64 0, .int .i64 0, .int .i64 0, .int .i64 0] := Box.new (vs := [.int .i64 0, .int .i64 0, .int .i64 0, .int .i64 0]) rfl
        have z4 := Ext.size hE
        have y4 : V1.heap.size < (V1.alloc (.cells #[.int .i64 0, .int .i64 0, .int .i64 0, .int .i64 0] 144)).heap.size := by simp
        replace hE := hE'
        clear hE' hy
        generalize V1.alloc (.cells #[.int .i64 0, .int .i64 0, .int .i64 0, .int .i64 0] 144) = V2 at *
        refine wpAnyH_ready (rs := [1]) (by kernel_rfl) (by simp) ?_
        refine (AllReadyH.cons rfl (fun K hK => ?_) AllReadyH.nil)
        go_simp
        go_at_call 122
        refine (PA.out _).mono ?_
        rintro e V3 ⟨rfl, hy⟩
        go_wp2_with fail
        have zy := Ext.size hy
        have hE' := hE.trans hy
        refine hK.out _ _ hE' (fun hHeld => ?_)
        clear hK K
        (try simp only [Act.put, Ord.a, Ord.b, Ord.c])
        replace P5 := P5.ext hy
        replace P4 := P4.ext hy
        replace hE := hE'
        clear hE' hy
        refine wpAnyH_ready (rs := [3]) (by kernel_rfl) (by simp) ?_
        refine (AllReadyH.cons rfl (fun K hK => ?_) AllReadyH.nil)
        go_simp
        go_at_call 122
        refine (PB.out _).mono ?_
        rintro e V4 ⟨rfl, hy⟩
        go_wp2_with fail
        have zy := Ext.size hy
        have hE' := hE.trans hy
        refine hK.out _ _ hE' (fun hHeld => ?_)
        clear hK K
        (try simp only [Act.put, Ord.a, Ord.b, Ord.c])
        replace P5 := P5.ext hy
        replace P4 := P4.ext hy
        replace hE := hE'
        clear hE' hy
        refine wpAnyH_ready (rs := [6]) (by kernel_rfl) (by simp) ?_
        refine (AllReadyH.cons rfl (fun K hK => ?_) AllReadyH.nil)
        obtain ⟨⟨r0, r1, r2, r3⟩, s0, s1, s2, s3⟩ := P4.four
        go_simp
        have hE' : Ext W0 ((((V4.setCell ⟨V1.heap.size, 0, none⟩ (.int .i64 s)).setCell ⟨V1.heap.size, 1, none⟩ (.int .i64 t)).setCell ⟨V1.heap.size, 2, none⟩ (.int .i64 a)).setCell ⟨V1.heap.size, 3, none⟩ (.int .i64 b)) := ((((hE.setNew (by first | omega | (simp; omega) | simp) _).setNew (by first | omega | (simp; omega) | simp) _).setNew (by first | omega | (simp; omega) | simp) _).setNew (by first | omega | (simp; omega) | simp) _)
        refine hK.out _ _ hE' (fun hHeld => ?_)
        clear hK K r0 r1 r2 r3 s0 s1 s2 s3
        (try simp only [Act.put, Ord.a, Ord.b, Ord.c])
        replace P4 := P4.set4 (a := .int .i64 s) (b := .int .i64 t) (c := .int .i64 a) (d := .int .i64 b)
        replace P5 := ((((P5.away (p := ⟨V1.heap.size, 0, none⟩) (by simp; omega) (.int .i64 s)).away (p := ⟨V1.heap.size, 1, none⟩) (by simp; omega) (.int .i64 t)).away (p := ⟨V1.heap.size, 2, none⟩) (by simp; omega) (.int .i64 a)).away (p := ⟨V1.heap.size, 3, none⟩) (by simp; omega) (.int .i64 b))
        replace hE := hE'
        clear hE'
        generalize ((((V4.setCell ⟨V1.heap.size, 0, none⟩ (.int .i64 s)).setCell ⟨V1.heap.size, 1, none⟩ (.int .i64 t)).setCell ⟨V1.heap.size, 2, none⟩ (.int .i64 a)).setCell ⟨V1.heap.size, 3, none⟩ (.int .i64 b)) = V5 at *
        refine wpAnyH_ready (rs := [7]) (by kernel_rfl) (by simp) ?_
        refine (AllReadyH.cons rfl (fun K hK => ?_) AllReadyH.nil)
        obtain ⟨⟨r0, r1, r2, r3⟩, s0, s1, s2, s3⟩ := P5.four
        go_simp
        have hE' : Ext W0 ((((V5.setCell ⟨V0.heap.size, 0, none⟩ (.int .i64 x)).setCell ⟨V0.heap.size, 1, none⟩ (.int .i64 y)).setCell ⟨V0.heap.size, 2, none⟩ (.int .i64 p)).setCell ⟨V0.heap.size, 3, none⟩ (.int .i64 q)) := ((((hE.setNew (by first | omega | (simp; omega) | simp) _).setNew (by first | omega | (simp; omega) | simp) _).setNew (by first | omega | (simp; omega) | simp) _).setNew (by first | omega | (simp; omega) | simp) _)
        refine hK.out _ _ hE' (fun hHeld => ?_)
        clear hK K r0 r1 r2 r3 s0 s1 s2 s3
        (try simp only [Act.put, Ord.a, Ord.b, Ord.c])
        replace P5 := P5.set4 (a := .int .i64 x) (b := .int .i64 y) (c := .int .i64 p) (d := .int .i64 q)
        replace P4 := ((((P4.away (p := ⟨V0.heap.size, 0, none⟩) (by simp; omega) (.int .i64 x)).away (p := ⟨V0.heap.size, 1, none⟩) (by simp; omega) (.int .i64 y)).away (p := ⟨V0.heap.size, 2, none⟩) (by simp; omega) (.int .i64 p)).away (p := ⟨V0.heap.size, 3, none⟩) (by simp; omega) (.int .i64 q))
        replace hE := hE'
        clear hE'
        generalize ((((V5.setCell ⟨V0.heap.size, 0, none⟩ (.int .i64 x)).setCell ⟨V0.heap.size, 1, none⟩ (.int .i64 y)).setCell ⟨V0.heap.size, 2, none⟩ (.int .i64 p)).setCell ⟨V0.heap.size, 3, none⟩ (.int .i64 q)) = V6 at *
        refine wpAnyH_done (by kernel_rfl) ?_ _
        go_wp2_with fail; go_meet; exact ⟨⟨_, _, rfl, rfl, P4, P5⟩, hE⟩
  case rest =>
    clear e00 e01 e02 e03 e04 e10 e11 e12 e13 e14 PA PB hz hzW
    obtain ⟨⟨B, C, rfl, rfl, QB, QC⟩, X1⟩ := hcut
    rename World => w3
    obtain ⟨⟨b0, b1, b2, b3⟩, _⟩ := QB.four
    obtain ⟨⟨c0, c1, c2, c3⟩, _⟩ := QC.four
    go_wp2_with fail
    refine (isPointDistance_any _ _).mono ?_
    rintro e w4 ⟨rfl, rfl⟩
    cases h3 : inB r 0 10000
    · have HC := Lib.hid (HC0.out.trans (if_neg (fun h => by rw [h3] at h; exact absurd h.1 (by decide))))
      have HV := Lib.hid (show hnB a b c d n p q u v m r = false by unfold hnB; rw [HC.out]; rfl)
      go_wp2
      go_ret2
      exact ⟨ret_bool_int HV.out HC.out, hX.trans X1⟩
    go_wp2_with fail
    refine (sgValid_any _ _ _ _ _).mono ?_
    rintro e w4 ⟨rfl, hy⟩
    replace X1 := X1.trans hy
    replace QB := QB.ext hy
    replace QC := QC.ext hy
    clear hy b0 b1 b2 b3 c0 c1 c2 c3
    obtain ⟨⟨b0, b1, b2, b3⟩, _⟩ := QB.four
    obtain ⟨⟨c0, c1, c2, c3⟩, _⟩ := QC.four
    cases h4 : sgB s t a b
    · have HC := Lib.hid (HC0.out.trans (if_neg (fun h => by rw [EA.out, h4] at h; exact absurd h.2.1 (by decide))))
      have HV := Lib.hid (show hnB a b c d n p q u v m r = false by unfold hnB; rw [HC.out]; rfl)
      go_wp2
      go_ret2
      exact ⟨ret_bool_int HV.out HC.out, hX.trans X1⟩
    go_wp2_with fail
    refine (sgValid_any _ _ _ _ _).mono ?_
    rintro e w5 ⟨rfl, hy⟩
    replace X1 := X1.trans hy
    replace QB := QB.ext hy
    replace QC := QC.ext hy
    clear hy b0 b1 b2 b3 c0 c1 c2 c3
    obtain ⟨⟨b0, b1, b2, b3⟩, _⟩ := QB.four
    obtain ⟨⟨c0, c1, c2, c3⟩, _⟩ := QC.four
    cases h5 : sgB x y p q
    · have HC := Lib.hid (HC0.out.trans (if_neg (fun h => by rw [EB.out, h5] at h; exact absurd h.2.2 (by decide))))
      have HV := Lib.hid (show hnB a b c d n p q u v m r = false by unfold hnB; rw [HC.out]; rfl)
      go_wp2
      go_ret2
      exact ⟨ret_bool_int HV.out HC.out, hX.trans X1⟩
    have HC := Lib.hid (HC0.out.trans (if_pos ⟨h3, EA.out.trans h4, EB.out.trans h5⟩))
    have HV0 : hnB a b c d n p q u v m r = nrB s t a b x y p q r := (show hnB a b c d n p q u v m r = hnN a b c d n p q u v m r by unfold hnB; rw [HC.out]; rfl).trans HN.out
    obtain ⟨r0, r1⟩ := of_inB h3
    obtain ⟨⟨hs, ht, ha, hb⟩, hn⟩ := sgB_yes h4
    obtain ⟨⟨hx, hy, hp, hq⟩, gn⟩ := sgB_yes h5
    have PM := Lib.hid (fun w => segmentsMeet_impl s t a b x y p q w)
    rw [show hcB s t a b x y p q false = hvB s t a b x y p q false from if_pos ⟨h4, h5⟩, show hcC s t a b x y p q = 0 from if_pos ⟨h4, h5⟩] at PM
    have PE := Lib.hid (fun w => hasEndNear_any s t a b x y p q r w h4 h5 r0 r1)
    have PF := Lib.hid (fun w => hasEndNear_any x y p q s t a b r w h5 h4 r0 r1)
    unfold nrB at HV0
    generalize hvB s t a b x y p q false = M at *
    generalize enB s t a b x y p q r = E at *
    generalize enB x y p q s t a b r = F at *
    have HV := Lib.hid HV0
    clear HV0 h1 h2 h3 h4 h5 r0 r1 hs ht ha hb hn hx hy hp hq gn HN EA EB HC0
    go_wp2_with fail
    refine (PM.out _).mono ?_
    rintro e w6 ⟨rfl, hyy⟩
    replace X1 := X1.trans hyy
    replace QB := QB.ext hyy
    replace QC := QC.ext hyy
    clear hyy b0 b1 b2 b3 c0 c1 c2 c3
    obtain ⟨⟨b0, b1, b2, b3⟩, _⟩ := QB.four
    obtain ⟨⟨c0, c1, c2, c3⟩, _⟩ := QC.four
    cases M
    rotate_left
    · go_wp2
      go_ret2
      exact ⟨ret_bool_int HV.out HC.out, hX.trans X1⟩
    go_wp2_with fail
    refine (PE.out _).mono ?_
    rintro e w7 ⟨rfl, hyy⟩
    replace X1 := X1.trans hyy
    replace QB := QB.ext hyy
    replace QC := QC.ext hyy
    clear hyy b0 b1 b2 b3 c0 c1 c2 c3
    obtain ⟨⟨b0, b1, b2, b3⟩, _⟩ := QB.four
    obtain ⟨⟨c0, c1, c2, c3⟩, _⟩ := QC.four
    cases E
    rotate_left
    · go_wp2
      go_ret2
      exact ⟨ret_bool_int HV.out HC.out, hX.trans X1⟩
    go_wp2_with fail
    refine (PF.out _).mono ?_
    rintro e w8 ⟨rfl, hyy⟩
    replace X1 := X1.trans hyy
    go_wp2
    go_ret2
    exact ⟨ret_bool_int HV.out HC.out, hX.trans X1⟩
end Go.Proofs.YtknelhceaoblhaaGreat.Hul
