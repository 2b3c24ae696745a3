import Derived.Test.YtmlojndkpnhalaaGreatZon
import Derived.Test.YtmlojndkpnhalaaGreatOrd
import Derived.Deep.DeepCutAuto
namespace Go.Proofs.YtmlojndkpnhalaaGreat.Crs
open Go.ChangeShapes Go.WideShapes Go.ChangeAt Go.RowKit Go.PlainAid
open Go.Proofs.YtmlojndkpnhalaaGreat.Num Go.Proofs.YtmlojndkpnhalaaGreat.Kit Go.Proofs.YtmlojndkpnhalaaGreat.Pts Go.Proofs.YtmlojndkpnhalaaGreat.Seg Go.Proofs.YtmlojndkpnhalaaGreat.Div Go.Proofs.YtmlojndkpnhalaaGreat.Root Go.Proofs.YtmlojndkpnhalaaGreat.Rt Go.Proofs.YtmlojndkpnhalaaGreat.Gcd
open Go.Proofs.YtmlojndkpnhalaaGreat.Trk (F3 Fxs Tr trB fx lastB legOf pkX pkY)
open Go.Proofs.YtmlojndkpnhalaaGreat.Win (wiB)
set_option linter.unusedVariables false
set_option linter.unusedSimpArgs false
theorem zzS_bd {z : Int} (h1 : 1 ≤ z) (h2 : z ≤ 5000) : IntKind.i64.wrap (z * z) = z * z := by
  have a := Int.mul_le_mul h2 h2 (by omega) (by omega)
  have b := Int.mul_nonneg (show 0 ≤ z by omega) (show 0 ≤ z by omega)
  exact IntWalk.i64_in _ (by omega)
theorem pick_fixes {w : World} {a : Option Addr} {fs : List F3} (hf : Fxs w a fs) {i : Nat} (hi : i + 1 < fs.length) :
    ∃ b off, a = some ⟨b, off, none⟩ ∧ Trk.At w b (off + i * 3) (fx fs i) ∧ Trk.At w b (off + (i + 1) * 3) (fx fs (i + 1)) := by
  rcases hf.2 with h | ⟨b, off, ha, hb⟩
  · rw [h] at hi; simp at hi
  · exact ⟨b, off, ha, hb i (by omega), hb (i + 1) hi⟩
set_option maxRecDepth 100000 in
set_option maxHeartbeats 8000000 in
theorem touches_spec (m : M5) (a : Option Addr) (cap : Nat) (fs : List F3) (i : Nat) (w : World) (hf : Fxs w a fs) (hi : i + 1 < fs.length) (hv : trB fs = true) (hm : mkB m = true) :
    Calls Tryz.prog 147 #[MV m, Tr (.slice a fs.length cap), .int .i64 i] w fun e w' => e = .returned (.bool (tgB m fs i)) ∧ Ext w w' := by
  obtain ⟨⟨h2, h40⟩, hok⟩ := Trk.trB_yes hv
  obtain ⟨⟨mx, my⟩, _, z1, z2⟩ := mk_yes hm
  obtain ⟨_, ca, cb⟩ := Trk.fxB_yes (Trk.okB_fx (hok i (by omega)))
  obtain ⟨_, cc, cd⟩ := Trk.fxB_yes (Trk.okB_fx (hok (i + 1) hi))
  obtain ⟨b, off, rfl, ⟨c0, c1, c2⟩, ⟨d0, d1, d2⟩⟩ := pick_fixes hf hi
  obtain ⟨F, hF⟩ : ∃ F, F = fx fs i := ⟨_, rfl⟩
  obtain ⟨G, hG⟩ : ∃ G, G = fx fs (i + 1) := ⟨_, rfl⟩
  have HT := Lib.hid (show tgB m fs i = toB m F.x F.y G.x G.y by rw [hF, hG]; rfl)
  rw [← hF] at c0 c1 c2 ca cb
  rw [← hG] at d0 d1 d2 cc cd
  have i0 : (0 : Int) ≤ (i : Int) := by omega
  have i1 : (i : Int) < (fs.length : Int) := by omega
  have i2 : (0 : Int) ≤ (i : Int) + 1 := by omega
  have i3 : (i : Int) + 1 < (fs.length : Int) := by omega
  have T0 : IntKind.i64.wrap ((i : Int) + 1) = (i : Int) + 1 := IntWalk.i64_in _ (by omega)
  have T1 : ((i : Int) + 1).toNat = i + 1 := by omega
  have Z := zzS_bd z1 z2
  have P1 := Lib.hid (fun w' => Trk.point_spec F.t F.x F.y w')
  have P2 := Lib.hid (fun w' => Trk.point_spec G.t G.x G.y w')
  have PQ := Lib.hid (fun w' => square_any F.x F.y m.x m.y w' ca cb mx my)
  have PW := Lib.hid (fun w' h => Win.within_any F.x F.y G.x G.y m.x m.y m.z w' ca cb cc cd mx my h (by omega) (by omega))
  clear hF hG hf hok hv hm ca cb cc cd mx my z1 z2
  obtain ⟨W0, hW0⟩ : ∃ W0, W0 = (w.alloc (.cells #[.string m.n, .int .i64 m.x, .int .i64 m.y, .int .i64 m.s, .int .i64 m.z] 145)).alloc (.cells #[.slice (some ⟨b, off, none⟩) fs.length cap] 33) := ⟨_, rfl⟩
  have hX : Ext w W0 := hW0 ▸ (((Ext.refl w).alloc _).alloc _)
  have hs0 : W0.heap.size = w.heap.size + 1 + 1 := by rw [hW0]; simp
  have e00 : ∀ w', (Ext W0) w' → w'.cell? ⟨w.heap.size, 0, none⟩ = some (.string m.n) := fun w' h => h.cellOf (by rw [hW0]; exact ((Ext.refl _).alloc _).cellOf (boxed 0 rfl (by simp)))
  have e01 : ∀ w', (Ext W0) w' → w'.cell? ⟨w.heap.size, 1, none⟩ = some (.int .i64 m.x) := fun w' h => h.cellOf (by rw [hW0]; exact ((Ext.refl _).alloc _).cellOf (boxed 1 rfl (by simp)))
  have e02 : ∀ w', (Ext W0) w' → w'.cell? ⟨w.heap.size, 2, none⟩ = some (.int .i64 m.y) := fun w' h => h.cellOf (by rw [hW0]; exact ((Ext.refl _).alloc _).cellOf (boxed 2 rfl (by simp)))
  have e03 : ∀ w', (Ext W0) w' → w'.cell? ⟨w.heap.size, 3, none⟩ = some (.int .i64 m.s) := fun w' h => h.cellOf (by rw [hW0]; exact ((Ext.refl _).alloc _).cellOf (boxed 3 rfl (by simp)))
  have e04 : ∀ w', (Ext W0) w' → w'.cell? ⟨w.heap.size, 4, none⟩ = some (.int .i64 m.z) := fun w' h => h.cellOf (by rw [hW0]; exact ((Ext.refl _).alloc _).cellOf (boxed 4 rfl (by simp)))
  have e10 : ∀ w', (Ext W0) w' → w'.cell? ⟨w.heap.size + 1, 0, none⟩ = some (.slice (some ⟨b, off, none⟩) fs.length cap) := fun w' h => h.cellOf (by rw [hW0]; exact boxed 0 rfl (by simp))
  have ec0 : ∀ w', Ext W0 w' → w'.cell? ⟨b, off + i * 3, none⟩ = some (.int .i64 F.t) := fun w' h => h.cellOf (hX.cellOf c0)
  have ec1 : ∀ w', Ext W0 w' → w'.cell? ⟨b, off + i * 3 + 1, none⟩ = some (.int .i64 F.x) := fun w' h => h.cellOf (hX.cellOf c1)
  have ec2 : ∀ w', Ext W0 w' → w'.cell? ⟨b, off + i * 3 + 2, none⟩ = some (.int .i64 F.y) := fun w' h => h.cellOf (hX.cellOf c2)
  have ed0 : ∀ w', Ext W0 w' → w'.cell? ⟨b, off + (i + 1) * 3, none⟩ = some (.int .i64 G.t) := fun w' h => h.cellOf (hX.cellOf d0)
  have ed1 : ∀ w', Ext W0 w' → w'.cell? ⟨b, off + (i + 1) * 3 + 1, none⟩ = some (.int .i64 G.x) := fun w' h => h.cellOf (hX.cellOf d1)
  have ed2 : ∀ w', Ext W0 w' → w'.cell? ⟨b, off + (i + 1) * 3 + 2, none⟩ = some (.int .i64 G.y) := fun w' h => h.cellOf (hX.cellOf d2)
  clear c0 c1 c2 d0 d1 d2
  go_enter Tryz.func147, Tryz.ntmps147
  go_upto_region 1 with fail
  rw [← hW0]
  clear hW0
  go_cut [7, 8] (fun s s2 wx => (∃ B, s = .pointer (some ⟨B, 0, none⟩) ∧ Box wx B [.int .i64 F.x, .int .i64 F.y]) ∧ (∃ B, s2 = .pointer (some ⟨B, 0, none⟩) ∧ Box wx B [.int .i64 G.x, .int .i64 G.y]) ∧ Ext W0 wx)
  case first =>
    refine wp_region_held_drew (S := fun w' => Ext W0 w') (by kernel_rfl) (by (try dsimp only); exact Ext.drew (Ext.refl W0)) (fun hHeld => ?_)
    have hE : Ext W0 W0.drew := Ext.drew (Ext.refl W0)
    obtain ⟨V0, hV0⟩ : ∃ V0, V0 = W0.drew := ⟨_, rfl⟩
    rw [← hV0] at hE hHeld ⊢
    clear hV0
    refine Ord.K 0 9 ?_; refine Ord.K 2 11 ?_; refine Ord.K 6 15 ?_; refine Ord.K 8 17 ?_; refine Ord.K 1 10 ?_; refine Ord.K 7 16 ?_; refine Ord.K 9 18 ?_; refine Ord.K 3 12 ?_; refine Ord.K 10 19 ?_; refine Ord.K 4 13 ?_; refine Ord.K 11 20 ?_
    refine wpAnyH_ready (rs := [5, 13, 14]) (by kernel_rfl) (by simp) ?_
    refine (AllReadyH.cons rfl (fun K hK => ?_) (AllReadyH.cons rfl (fun K hK => ?_) (AllReadyH.cons rfl (fun K hK => ?_) AllReadyH.nil)))
    · go_simp
      go_at_call 144
      refine (P1.out _).mono ?_
      rintro e V1 ⟨rfl, hy⟩
      go_wp2_with fail
      have zy := Ext.size hy
      have hE' := hE.trans hy
      refine hK.out _ _ hE' (fun hHeld => ?_)
      clear hK K
      (try simp only [Act.put, Ord.a, Ord.b, Ord.c])
      replace hE := hE'
      clear hE' hy
      refine wpAnyH_ready (rs := [12, 13, 14]) (by kernel_rfl) (by simp) ?_
      refine (AllReadyH.cons rfl (fun K hK => ?_) (AllReadyH.cons rfl (fun K hK => ?_) (AllReadyH.cons rfl (fun K hK => ?_) AllReadyH.nil)))
      · go_simp
        go_at_call 144
        refine (P2.out _).mono ?_
        rintro e V2 ⟨rfl, hy⟩
        go_wp2_with fail
        have zy := Ext.size hy
        have hE' := hE.trans hy
        refine hK.out _ _ hE' (fun hHeld => ?_)
        clear hK K
        (try simp only [Act.put, Ord.a, Ord.b, Ord.c])
        replace hE := hE'
        clear hE' hy
        refine wpAnyH_ready (rs := [13, 14]) (by kernel_rfl) (by simp) ?_
        refine (AllReadyH.cons rfl (fun K hK => ?_) (AllReadyH.cons rfl (fun K hK => ?_) AllReadyH.nil))
        · go_simp
          have hy : Ext V2 (V2.alloc (.cells #[.int .i64 0, .int .i64 0] 25)) := (Ext.refl V2).alloc _
          have hE' := hE.trans hy
          refine hK.out _ _ hE' (fun hHeld => ?_)
          clear hK K
          (try simp only [Act.put, Ord.a, Ord.b, Ord.c])
          have P13 : Box (V2.alloc (.cells #[.int .i64 0, .int .i64 0] 25)) V2.heap.size [.int .i64 0, .int .i64 0] := Box.new (vs := [.int .i64 0, .int .i64 0]) rfl
          have z13 := Ext.size hE
          have y13 : V2.heap.size < (V2.alloc (.cells #[.int .i64 0, .int .i64 0] 25)).heap.size := by simp
          replace hE := hE'
          clear hE' hy
          generalize V2.alloc (.cells #[.int .i64 0, .int .i64 0] 25) = V3 at *
          refine wpAnyH_ready (rs := [14]) (by kernel_rfl) (by simp) ?_
          refine (AllReadyH.cons rfl (fun K hK => ?_) AllReadyH.nil)
          go_simp
          have hy : Ext V3 (V3.alloc (.cells #[.int .i64 0, .int .i64 0] 25)) := (Ext.refl V3).alloc _
          have hE' := hE.trans hy
          refine hK.out _ _ hE' (fun hHeld => ?_)
          clear hK K
          (try simp only [Act.put, Ord.a, Ord.b, Ord.c])
          replace P13 := P13.ext hy
          have P14 : Box (V3.alloc (.cells #[.int .i64 0, .int .i64 0] 25)) V3.heap.size [.int .i64 0, .int .i64 0] := Box.new (vs := [.int .i64 0, .int .i64 0]) rfl
          have z14 := Ext.size hE
          have y14 : V3.heap.size < (V3.alloc (.cells #[.int .i64 0, .int .i64 0] 25)).heap.size := by simp
          replace hE := hE'
          clear hE' hy
          generalize V3.alloc (.cells #[.int .i64 0, .int .i64 0] 25) = V4 at *
          refine wpAnyH_ready (rs := [15]) (by kernel_rfl) (by simp) ?_
          refine (AllReadyH.cons rfl (fun K hK => ?_) AllReadyH.nil)
          obtain ⟨⟨r0, r1⟩, r2, r3⟩ := P13.two
          go_simp
          have hE' : Ext W0 ((V4.setCell ⟨V2.heap.size, 0, none⟩ (.int .i64 F.x)).setCell ⟨V2.heap.size, 1, none⟩ (.int .i64 F.y)) := ((hE.setNew (by first | omega | (simp; omega) | simp) _).setNew (by first | omega | (simp; omega) | simp) _)
          refine hK.out _ _ hE' (fun hHeld => ?_)
          clear hK K r0 r1 r2 r3
          (try simp only [Act.put, Ord.a, Ord.b, Ord.c])
          replace P13 := P13.set2 (u := .int .i64 F.x) (v := .int .i64 F.y)
          replace P14 := ((P14.away (p := ⟨V2.heap.size, 0, none⟩) (by simp; omega) (.int .i64 F.x)).away (p := ⟨V2.heap.size, 1, none⟩) (by simp; omega) (.int .i64 F.y))
          replace hE := hE'
          clear hE'
          generalize ((V4.setCell ⟨V2.heap.size, 0, none⟩ (.int .i64 F.x)).setCell ⟨V2.heap.size, 1, none⟩ (.int .i64 F.y)) = V5 at *
          refine wpAnyH_ready (rs := [16]) (by kernel_rfl) (by simp) ?_
          refine (AllReadyH.cons rfl (fun K hK => ?_) AllReadyH.nil)
          obtain ⟨⟨r0, r1⟩, r2, r3⟩ := P14.two
          go_simp
          have hE' : Ext W0 ((V5.setCell ⟨V3.heap.size, 0, none⟩ (.int .i64 G.x)).setCell ⟨V3.heap.size, 1, none⟩ (.int .i64 G.y)) := ((hE.setNew (by first | omega | (simp; omega) | simp) _).setNew (by first | omega | (simp; omega) | simp) _)
          refine hK.out _ _ hE' (fun hHeld => ?_)
          clear hK K r0 r1 r2 r3
          (try simp only [Act.put, Ord.a, Ord.b, Ord.c])
          replace P14 := P14.set2 (u := .int .i64 G.x) (v := .int .i64 G.y)
          replace P13 := ((P13.away (p := ⟨V3.heap.size, 0, none⟩) (by simp; omega) (.int .i64 G.x)).away (p := ⟨V3.heap.size, 1, none⟩) (by simp; omega) (.int .i64 G.y))
          replace hE := hE'
          clear hE'
          generalize ((V5.setCell ⟨V3.heap.size, 0, none⟩ (.int .i64 G.x)).setCell ⟨V3.heap.size, 1, none⟩ (.int .i64 G.y)) = V6 at *
          refine wpAnyH_done (by kernel_rfl) ?_ _
          go_wp2_with fail; go_meet; exact ⟨⟨_, rfl, P13⟩, ⟨_, rfl, P14⟩, hE⟩
        · go_simp
          have hy : Ext V2 (V2.alloc (.cells #[.int .i64 0, .int .i64 0] 25)) := (Ext.refl V2).alloc _
          have hE' := hE.trans hy
          refine hK.out _ _ hE' (fun hHeld => ?_)
          clear hK K
          (try simp only [Act.put, Ord.a, Ord.b, Ord.c])
          have P14 : Box (V2.alloc (.cells #[.int .i64 0, .int .i64 0] 25)) V2.heap.size [.int .i64 0, .int .i64 0] := Box.new (vs := [.int .i64 0, .int .i64 0]) rfl
          have z14 := Ext.size hE
          have y14 : V2.heap.size < (V2.alloc (.cells #[.int .i64 0, .int .i64 0] 25)).heap.size := by simp
          replace hE := hE'
          clear hE' hy
          generalize V2.alloc (.cells #[.int .i64 0, .int .i64 0] 25) = V3 at *
          refine wpAnyH_ready (rs := [13]) (by kernel_rfl) (by simp) ?_
          refine (AllReadyH.cons rfl (fun K hK => ?_) AllReadyH.nil)
          go_simp
          have hy : Ext V3 (V3.alloc (.cells #[.int .i64 0, .int .i64 0] 25)) := (Ext.refl V3).alloc _
          have hE' := hE.trans hy
          refine hK.out _ _ hE' (fun hHeld => ?_)
          clear hK K
          (try simp only [Act.put, Ord.a, Ord.b, Ord.c])
          replace P14 := P14.ext hy
          have P13 : Box (V3.alloc (.cells #[.int .i64 0, .int .i64 0] 25)) V3.heap.size [.int .i64 0, .int .i64 0] := Box.new (vs := [.int .i64 0, .int .i64 0]) rfl
          have z13 := Ext.size hE
          have y13 : V3.heap.size < (V3.alloc (.cells #[.int .i64 0, .int .i64 0] 25)).heap.size := by simp
          replace hE := hE'
          clear hE' hy
          generalize V3.alloc (.cells #[.int .i64 0, .int .i64 0] 25) = V4 at *
          refine wpAnyH_ready (rs := [15]) (by kernel_rfl) (by simp) ?_
          refine (AllReadyH.cons rfl (fun K hK => ?_) AllReadyH.nil)
          obtain ⟨⟨r0, r1⟩, r2, r3⟩ := P13.two
          go_simp
          have hE' : Ext W0 ((V4.setCell ⟨V3.heap.size, 0, none⟩ (.int .i64 F.x)).setCell ⟨V3.heap.size, 1, none⟩ (.int .i64 F.y)) := ((hE.setNew (by first | omega | (simp; omega) | simp) _).setNew (by first | omega | (simp; omega) | simp) _)
          refine hK.out _ _ hE' (fun hHeld => ?_)
          clear hK K r0 r1 r2 r3
          (try simp only [Act.put, Ord.a, Ord.b, Ord.c])
          replace P13 := P13.set2 (u := .int .i64 F.x) (v := .int .i64 F.y)
          replace P14 := ((P14.away (p := ⟨V3.heap.size, 0, none⟩) (by simp; omega) (.int .i64 F.x)).away (p := ⟨V3.heap.size, 1, none⟩) (by simp; omega) (.int .i64 F.y))
          replace hE := hE'
          clear hE'
          generalize ((V4.setCell ⟨V3.heap.size, 0, none⟩ (.int .i64 F.x)).setCell ⟨V3.heap.size, 1, none⟩ (.int .i64 F.y)) = V5 at *
          refine wpAnyH_ready (rs := [16]) (by kernel_rfl) (by simp) ?_
          refine (AllReadyH.cons rfl (fun K hK => ?_) AllReadyH.nil)
          obtain ⟨⟨r0, r1⟩, r2, r3⟩ := P14.two
          go_simp
          have hE' : Ext W0 ((V5.setCell ⟨V2.heap.size, 0, none⟩ (.int .i64 G.x)).setCell ⟨V2.heap.size, 1, none⟩ (.int .i64 G.y)) := ((hE.setNew (by first | omega | (simp; omega) | simp) _).setNew (by first | omega | (simp; omega) | simp) _)
          refine hK.out _ _ hE' (fun hHeld => ?_)
          clear hK K r0 r1 r2 r3
          (try simp only [Act.put, Ord.a, Ord.b, Ord.c])
          replace P14 := P14.set2 (u := .int .i64 G.x) (v := .int .i64 G.y)
          replace P13 := ((P13.away (p := ⟨V2.heap.size, 0, none⟩) (by simp; omega) (.int .i64 G.x)).away (p := ⟨V2.heap.size, 1, none⟩) (by simp; omega) (.int .i64 G.y))
          replace hE := hE'
          clear hE'
          generalize ((V5.setCell ⟨V2.heap.size, 0, none⟩ (.int .i64 G.x)).setCell ⟨V2.heap.size, 1, none⟩ (.int .i64 G.y)) = V6 at *
          refine wpAnyH_done (by kernel_rfl) ?_ _
          go_wp2_with fail; go_meet; exact ⟨⟨_, rfl, P13⟩, ⟨_, rfl, P14⟩, hE⟩
      · go_simp
        have hy : Ext V1 (V1.alloc (.cells #[.int .i64 0, .int .i64 0] 25)) := (Ext.refl V1).alloc _
        have hE' := hE.trans hy
        refine hK.out _ _ hE' (fun hHeld => ?_)
        clear hK K
        (try simp only [Act.put, Ord.a, Ord.b, Ord.c])
        have P13 : Box (V1.alloc (.cells #[.int .i64 0, .int .i64 0] 25)) V1.heap.size [.int .i64 0, .int .i64 0] := Box.new (vs := [.int .i64 0, .int .i64 0]) rfl
        have z13 := Ext.size hE
        have y13 : V1.heap.size < (V1.alloc (.cells #[.int .i64 0, .int .i64 0] 25)).heap.size := by simp
        replace hE := hE'
        clear hE' hy
        generalize V1.alloc (.cells #[.int .i64 0, .int .i64 0] 25) = V2 at *
        refine wpAnyH_ready (rs := [12, 14]) (by kernel_rfl) (by simp) ?_
        refine (AllReadyH.cons rfl (fun K hK => ?_) (AllReadyH.cons rfl (fun K hK => ?_) AllReadyH.nil))
        · go_simp
          go_at_call 144
          refine (P2.out _).mono ?_
          rintro e V3 ⟨rfl, hy⟩
          go_wp2_with fail
          have zy := Ext.size hy
          have hE' := hE.trans hy
          refine hK.out _ _ hE' (fun hHeld => ?_)
          clear hK K
          (try simp only [Act.put, Ord.a, Ord.b, Ord.c])
          replace P13 := P13.ext hy
          replace hE := hE'
          clear hE' hy
          refine wpAnyH_ready (rs := [14]) (by kernel_rfl) (by simp) ?_
          refine (AllReadyH.cons rfl (fun K hK => ?_) AllReadyH.nil)
          go_simp
          have hy : Ext V3 (V3.alloc (.cells #[.int .i64 0, .int .i64 0] 25)) := (Ext.refl V3).alloc _
          have hE' := hE.trans hy
          refine hK.out _ _ hE' (fun hHeld => ?_)
          clear hK K
          (try simp only [Act.put, Ord.a, Ord.b, Ord.c])
          replace P13 := P13.ext hy
          have P14 : Box (V3.alloc (.cells #[.int .i64 0, .int .i64 0] 25)) V3.heap.size [.int .i64 0, .int .i64 0] := Box.new (vs := [.int .i64 0, .int .i64 0]) rfl
          have z14 := Ext.size hE
          have y14 : V3.heap.size < (V3.alloc (.cells #[.int .i64 0, .int .i64 0] 25)).heap.size := by simp
          replace hE := hE'
          clear hE' hy
          generalize V3.alloc (.cells #[.int .i64 0, .int .i64 0] 25) = V4 at *
          refine wpAnyH_ready (rs := [15]) (by kernel_rfl) (by simp) ?_
          refine (AllReadyH.cons rfl (fun K hK => ?_) AllReadyH.nil)
          obtain ⟨⟨r0, r1⟩, r2, r3⟩ := P13.two
          go_simp
          have hE' : Ext W0 ((V4.setCell ⟨V1.heap.size, 0, none⟩ (.int .i64 F.x)).setCell ⟨V1.heap.size, 1, none⟩ (.int .i64 F.y)) := ((hE.setNew (by first | omega | (simp; omega) | simp) _).setNew (by first | omega | (simp; omega) | simp) _)
          refine hK.out _ _ hE' (fun hHeld => ?_)
          clear hK K r0 r1 r2 r3
          (try simp only [Act.put, Ord.a, Ord.b, Ord.c])
          replace P13 := P13.set2 (u := .int .i64 F.x) (v := .int .i64 F.y)
          replace P14 := ((P14.away (p := ⟨V1.heap.size, 0, none⟩) (by simp; omega) (.int .i64 F.x)).away (p := ⟨V1.heap.size, 1, none⟩) (by simp; omega) (.int .i64 F.y))
          replace hE := hE'
          clear hE'
          generalize ((V4.setCell ⟨V1.heap.size, 0, none⟩ (.int .i64 F.x)).setCell ⟨V1.heap.size, 1, none⟩ (.int .i64 F.y)) = V5 at *
          refine wpAnyH_ready (rs := [16]) (by kernel_rfl) (by simp) ?_
          refine (AllReadyH.cons rfl (fun K hK => ?_) AllReadyH.nil)
          obtain ⟨⟨r0, r1⟩, r2, r3⟩ := P14.two
          go_simp
          have hE' : Ext W0 ((V5.setCell ⟨V3.heap.size, 0, none⟩ (.int .i64 G.x)).setCell ⟨V3.heap.size, 1, none⟩ (.int .i64 G.y)) := ((hE.setNew (by first | omega | (simp; omega) | simp) _).setNew (by first | omega | (simp; omega) | simp) _)
          refine hK.out _ _ hE' (fun hHeld => ?_)
          clear hK K r0 r1 r2 r3
          (try simp only [Act.put, Ord.a, Ord.b, Ord.c])
          replace P14 := P14.set2 (u := .int .i64 G.x) (v := .int .i64 G.y)
          replace P13 := ((P13.away (p := ⟨V3.heap.size, 0, none⟩) (by simp; omega) (.int .i64 G.x)).away (p := ⟨V3.heap.size, 1, none⟩) (by simp; omega) (.int .i64 G.y))
          replace hE := hE'
          clear hE'
          generalize ((V5.setCell ⟨V3.heap.size, 0, none⟩ (.int .i64 G.x)).setCell ⟨V3.heap.size, 1, none⟩ (.int .i64 G.y)) = V6 at *
          refine wpAnyH_done (by kernel_rfl) ?_ _
          go_wp2_with fail; go_meet; exact ⟨⟨_, rfl, P13⟩, ⟨_, rfl, P14⟩, hE⟩
        · go_simp
          have hy : Ext V2 (V2.alloc (.cells #[.int .i64 0, .int .i64 0] 25)) := (Ext.refl V2).alloc _
          have hE' := hE.trans hy
          refine hK.out _ _ hE' (fun hHeld => ?_)
          clear hK K
          (try simp only [Act.put, Ord.a, Ord.b, Ord.c])
          replace P13 := P13.ext hy
          have P14 : Box (V2.alloc (.cells #[.int .i64 0, .int .i64 0] 25)) V2.heap.size [.int .i64 0, .int .i64 0] := Box.new (vs := [.int .i64 0, .int .i64 0]) rfl
          have z14 := Ext.size hE
          have y14 : V2.heap.size < (V2.alloc (.cells #[.int .i64 0, .int .i64 0] 25)).heap.size := by simp
          replace hE := hE'
          clear hE' hy
          generalize V2.alloc (.cells #[.int .i64 0, .int .i64 0] 25) = V3 at *
          refine wpAnyH_ready (rs := [12]) (by kernel_rfl) (by simp) ?_
          refine (AllReadyH.cons rfl (fun K hK => ?_) AllReadyH.nil)
          go_simp
          go_at_call 144
          refine (P2.out _).mono ?_
          rintro e V4 ⟨rfl, hy⟩
          go_wp2_with fail
          have zy := Ext.size hy
          have hE' := hE.trans hy
          refine hK.out _ _ hE' (fun hHeld => ?_)
          clear hK K
          (try simp only [Act.put, Ord.a, Ord.b, Ord.c])
          replace P13 := P13.ext hy
          replace P14 := P14.ext hy
          replace hE := hE'
          clear hE' hy
          refine wpAnyH_ready (rs := [15]) (by kernel_rfl) (by simp) ?_
          refine (AllReadyH.cons rfl (fun K hK => ?_) AllReadyH.nil)
          obtain ⟨⟨r0, r1⟩, r2, r3⟩ := P13.two
          go_simp
          have hE' : Ext W0 ((V4.setCell ⟨V1.heap.size, 0, none⟩ (.int .i64 F.x)).setCell ⟨V1.heap.size, 1, none⟩ (.int .i64 F.y)) := ((hE.setNew (by first | omega | (simp; omega) | simp) _).setNew (by first | omega | (simp; omega) | simp) _)
          refine hK.out _ _ hE' (fun hHeld => ?_)
          clear hK K r0 r1 r2 r3
          (try simp only [Act.put, Ord.a, Ord.b, Ord.c])
          replace P13 := P13.set2 (u := .int .i64 F.x) (v := .int .i64 F.y)
          replace P14 := ((P14.away (p := ⟨V1.heap.size, 0, none⟩) (by simp; omega) (.int .i64 F.x)).away (p := ⟨V1.heap.size, 1, none⟩) (by simp; omega) (.int .i64 F.y))
          replace hE := hE'
          clear hE'
          generalize ((V4.setCell ⟨V1.heap.size, 0, none⟩ (.int .i64 F.x)).setCell ⟨V1.heap.size, 1, none⟩ (.int .i64 F.y)) = V5 at *
          refine wpAnyH_ready (rs := [16]) (by kernel_rfl) (by simp) ?_
          refine (AllReadyH.cons rfl (fun K hK => ?_) AllReadyH.nil)
          obtain ⟨⟨r0, r1⟩, r2, r3⟩ := P14.two
          go_simp
          have hE' : Ext W0 ((V5.setCell ⟨V2.heap.size, 0, none⟩ (.int .i64 G.x)).setCell ⟨V2.heap.size, 1, none⟩ (.int .i64 G.y)) := ((hE.setNew (by first | omega | (simp; omega) | simp) _).setNew (by first | omega | (simp; omega) | simp) _)
          refine hK.out _ _ hE' (fun hHeld => ?_)
          clear hK K r0 r1 r2 r3
          (try simp only [Act.put, Ord.a, Ord.b, Ord.c])
          replace P14 := P14.set2 (u := .int .i64 G.x) (v := .int .i64 G.y)
          replace P13 := ((P13.away (p := ⟨V2.heap.size, 0, none⟩) (by simp; omega) (.int .i64 G.x)).away (p := ⟨V2.heap.size, 1, none⟩) (by simp; omega) (.int .i64 G.y))
          replace hE := hE'
          clear hE'
          generalize ((V5.setCell ⟨V2.heap.size, 0, none⟩ (.int .i64 G.x)).setCell ⟨V2.heap.size, 1, none⟩ (.int .i64 G.y)) = V6 at *
          refine wpAnyH_done (by kernel_rfl) ?_ _
          go_wp2_with fail; go_meet; exact ⟨⟨_, rfl, P13⟩, ⟨_, rfl, P14⟩, hE⟩
      · go_simp
        have hy : Ext V1 (V1.alloc (.cells #[.int .i64 0, .int .i64 0] 25)) := (Ext.refl V1).alloc _
        have hE' := hE.trans hy
        refine hK.out _ _ hE' (fun hHeld => ?_)
        clear hK K
        (try simp only [Act.put, Ord.a, Ord.b, Ord.c])
        have P14 : Box (V1.alloc (.cells #[.int .i64 0, .int .i64 0] 25)) V1.heap.size [.int .i64 0, .int .i64 0] := Box.new (vs := [.int .i64 0, .int .i64 0]) rfl
        have z14 := Ext.size hE
        have y14 : V1.heap.size < (V1.alloc (.cells #[.int .i64 0, .int .i64 0] 25)).heap.size := by simp
        replace hE := hE'
        clear hE' hy
        generalize V1.alloc (.cells #[.int .i64 0, .int .i64 0] 25) = V2 at *
        refine wpAnyH_ready (rs := [12, 13]) (by kernel_rfl) (by simp) ?_
        refine (AllReadyH.cons rfl (fun K hK => ?_) (AllReadyH.cons rfl (fun K hK => ?_) AllReadyH.nil))
        · go_simp
          go_at_call 144
          refine (P2.out _).mono ?_
          rintro e V3 ⟨rfl, hy⟩
          go_wp2_with fail
          have zy := Ext.size hy
          have hE' := hE.trans hy
          refine hK.out _ _ hE' (fun hHeld => ?_)
          clear hK K
          (try simp only [Act.put, Ord.a, Ord.b, Ord.c])
          replace P14 := P14.ext hy
          replace hE := hE'
          clear hE' hy
          refine wpAnyH_ready (rs := [13]) (by kernel_rfl) (by simp) ?_
          refine (AllReadyH.cons rfl (fun K hK => ?_) AllReadyH.nil)
          go_simp
          have hy : Ext V3 (V3.alloc (.cells #[.int .i64 0, .int .i64 0] 25)) := (Ext.refl V3).alloc _
          have hE' := hE.trans hy
          refine hK.out _ _ hE' (fun hHeld => ?_)
          clear hK K
          (try simp only [Act.put, Ord.a, Ord.b, Ord.c])
          replace P14 := P14.ext hy
          have P13 : Box (V3.alloc (.cells #[.int .i64 0, .int .i64 0] 25)) V3.heap.size [.int .i64 0, .int .i64 0] := Box.new (vs := [.int .i64 0, .int .i64 0]) rfl
          have z13 := Ext.size hE
          have y13 : V3.heap.size < (V3.alloc (.cells #[.int .i64 0, .int .i64 0] 25)).heap.size := by simp
          replace hE := hE'
          clear hE' hy
          generalize V3.alloc (.cells #[.int .i64 0, .int .i64 0] 25) = V4 at *
          refine wpAnyH_ready (rs := [15]) (by kernel_rfl) (by simp) ?_
          refine (AllReadyH.cons rfl (fun K hK => ?_) AllReadyH.nil)
          obtain ⟨⟨r0, r1⟩, r2, r3⟩ := P13.two
          go_simp
          have hE' : Ext W0 ((V4.setCell ⟨V3.heap.size, 0, none⟩ (.int .i64 F.x)).setCell ⟨V3.heap.size, 1, none⟩ (.int .i64 F.y)) := ((hE.setNew (by first | omega | (simp; omega) | simp) _).setNew (by first | omega | (simp; omega) | simp) _)
          refine hK.out _ _ hE' (fun hHeld => ?_)
          clear hK K r0 r1 r2 r3
          (try simp only [Act.put, Ord.a, Ord.b, Ord.c])
          replace P13 := P13.set2 (u := .int .i64 F.x) (v := .int .i64 F.y)
          replace P14 := ((P14.away (p := ⟨V3.heap.size, 0, none⟩) (by simp; omega) (.int .i64 F.x)).away (p := ⟨V3.heap.size, 1, none⟩) (by simp; omega) (.int .i64 F.y))
          replace hE := hE'
          clear hE'
          generalize ((V4.setCell ⟨V3.heap.size, 0, none⟩ (.int .i64 F.x)).setCell ⟨V3.heap.size, 1, none⟩ (.int .i64 F.y)) = V5 at *
          refine wpAnyH_ready (rs := [16]) (by kernel_rfl) (by simp) ?_
          refine (AllReadyH.cons rfl (fun K hK => ?_) AllReadyH.nil)
          obtain ⟨⟨r0, r1⟩, r2, r3⟩ := P14.two
          go_simp
          have hE' : Ext W0 ((V5.setCell ⟨V1.heap.size, 0, none⟩ (.int .i64 G.x)).setCell ⟨V1.heap.size, 1, none⟩ (.int .i64 G.y)) := ((hE.setNew (by first | omega | (simp; omega) | simp) _).setNew (by first | omega | (simp; omega) | simp) _)
          refine hK.out _ _ hE' (fun hHeld => ?_)
          clear hK K r0 r1 r2 r3
          (try simp only [Act.put, Ord.a, Ord.b, Ord.c])
          replace P14 := P14.set2 (u := .int .i64 G.x) (v := .int .i64 G.y)
          replace P13 := ((P13.away (p := ⟨V1.heap.size, 0, none⟩) (by simp; omega) (.int .i64 G.x)).away (p := ⟨V1.heap.size, 1, none⟩) (by simp; omega) (.int .i64 G.y))
          replace hE := hE'
          clear hE'
          generalize ((V5.setCell ⟨V1.heap.size, 0, none⟩ (.int .i64 G.x)).setCell ⟨V1.heap.size, 1, none⟩ (.int .i64 G.y)) = V6 at *
          refine wpAnyH_done (by kernel_rfl) ?_ _
          go_wp2_with fail; go_meet; exact ⟨⟨_, rfl, P13⟩, ⟨_, rfl, P14⟩, hE⟩
        · go_simp
          have hy : Ext V2 (V2.alloc (.cells #[.int .i64 0, .int .i64 0] 25)) := (Ext.refl V2).alloc _
          have hE' := hE.trans hy
          refine hK.out _ _ hE' (fun hHeld => ?_)
          clear hK K
          (try simp only [Act.put, Ord.a, Ord.b, Ord.c])
          replace P14 := P14.ext hy
          have P13 : Box (V2.alloc (.cells #[.int .i64 0, .int .i64 0] 25)) V2.heap.size [.int .i64 0, .int .i64 0] := Box.new (vs := [.int .i64 0, .int .i64 0]) rfl
          have z13 := Ext.size hE
          have y13 : V2.heap.size < (V2.alloc (.cells #[.int .i64 0, .int .i64 0] 25)).heap.size := by simp
          replace hE := hE'
          clear hE' hy
          generalize V2.alloc (.cells #[.int .i64 0, .int .i64 0] 25) = V3 at *
          refine wpAnyH_ready (rs := [12]) (by kernel_rfl) (by simp) ?_
          refine (AllReadyH.cons rfl (fun K hK => ?_) AllReadyH.nil)
          go_simp
          go_at_call 144
          refine (P2.out _).mono ?_
          rintro e V4 ⟨rfl, hy⟩
          go_wp2_with fail
          have zy := Ext.size hy
          have hE' := hE.trans hy
          refine hK.out _ _ hE' (fun hHeld => ?_)
          clear hK K
          (try simp only [Act.put, Ord.a, Ord.b, Ord.c])
          replace P14 := P14.ext hy
          replace P13 := P13.ext hy
          replace hE := hE'
          clear hE' hy
          refine wpAnyH_ready (rs := [15]) (by kernel_rfl) (by simp) ?_
          refine (AllReadyH.cons rfl (fun K hK => ?_) AllReadyH.nil)
          obtain ⟨⟨r0, r1⟩, r2, r3⟩ := P13.two
          go_simp
          have hE' : Ext W0 ((V4.setCell ⟨V2.heap.size, 0, none⟩ (.int .i64 F.x)).setCell ⟨V2.heap.size, 1, none⟩ (.int .i64 F.y)) := ((hE.setNew (by first | omega | (simp; omega) | simp) _).setNew (by first | omega | (simp; omega) | simp) _)
          refine hK.out _ _ hE' (fun hHeld => ?_)
          clear hK K r0 r1 r2 r3
          (try simp only [Act.put, Ord.a, Ord.b, Ord.c])
          replace P13 := P13.set2 (u := .int .i64 F.x) (v := .int .i64 F.y)
          replace P14 := ((P14.away (p := ⟨V2.heap.size, 0, none⟩) (by simp; omega) (.int .i64 F.x)).away (p := ⟨V2.heap.size, 1, none⟩) (by simp; omega) (.int .i64 F.y))
          replace hE := hE'
          clear hE'
          generalize ((V4.setCell ⟨V2.heap.size, 0, none⟩ (.int .i64 F.x)).setCell ⟨V2.heap.size, 1, none⟩ (.int .i64 F.y)) = V5 at *
          refine wpAnyH_ready (rs := [16]) (by kernel_rfl) (by simp) ?_
          refine (AllReadyH.cons rfl (fun K hK => ?_) AllReadyH.nil)
          obtain ⟨⟨r0, r1⟩, r2, r3⟩ := P14.two
          go_simp
          have hE' : Ext W0 ((V5.setCell ⟨V1.heap.size, 0, none⟩ (.int .i64 G.x)).setCell ⟨V1.heap.size, 1, none⟩ (.int .i64 G.y)) := ((hE.setNew (by first | omega | (simp; omega) | simp) _).setNew (by first | omega | (simp; omega) | simp) _)
          refine hK.out _ _ hE' (fun hHeld => ?_)
          clear hK K r0 r1 r2 r3
          (try simp only [Act.put, Ord.a, Ord.b, Ord.c])
          replace P14 := P14.set2 (u := .int .i64 G.x) (v := .int .i64 G.y)
          replace P13 := ((P13.away (p := ⟨V1.heap.size, 0, none⟩) (by simp; omega) (.int .i64 G.x)).away (p := ⟨V1.heap.size, 1, none⟩) (by simp; omega) (.int .i64 G.y))
          replace hE := hE'
          clear hE'
          generalize ((V5.setCell ⟨V1.heap.size, 0, none⟩ (.int .i64 G.x)).setCell ⟨V1.heap.size, 1, none⟩ (.int .i64 G.y)) = V6 at *
          refine wpAnyH_done (by kernel_rfl) ?_ _
          go_wp2_with fail; go_meet; exact ⟨⟨_, rfl, P13⟩, ⟨_, rfl, P14⟩, hE⟩
    · go_simp
      have hy : Ext V0 (V0.alloc (.cells #[.int .i64 0, .int .i64 0] 25)) := (Ext.refl V0).alloc _
      have hE' := hE.trans hy
      refine hK.out _ _ hE' (fun hHeld => ?_)
      clear hK K
      (try simp only [Act.put, Ord.a, Ord.b, Ord.c])
      have P13 : Box (V0.alloc (.cells #[.int .i64 0, .int .i64 0] 25)) V0.heap.size [.int .i64 0, .int .i64 0] := Box.new (vs := [.int .i64 0, .int .i64 0]) rfl
      have z13 := Ext.size hE
      have y13 : V0.heap.size < (V0.alloc (.cells #[.int .i64 0, .int .i64 0] 25)).heap.size := by simp
      replace hE := hE'
      clear hE' hy
      generalize V0.alloc (.cells #[.int .i64 0, .int .i64 0] 25) = V1 at *
      refine wpAnyH_ready (rs := [5, 14]) (by kernel_rfl) (by simp) ?_
      refine (AllReadyH.cons rfl (fun K hK => ?_) (AllReadyH.cons rfl (fun K hK => ?_) AllReadyH.nil))
      · go_simp
        go_at_call 144
        refine (P1.out _).mono ?_
        rintro e V2 ⟨rfl, hy⟩
        go_wp2_with fail
        have zy := Ext.size hy
        have hE' := hE.trans hy
        refine hK.out _ _ hE' (fun hHeld => ?_)
        clear hK K
        (try simp only [Act.put, Ord.a, Ord.b, Ord.c])
        replace P13 := P13.ext hy
        replace hE := hE'
        clear hE' hy
        refine wpAnyH_ready (rs := [12, 14]) (by kernel_rfl) (by simp) ?_
        refine (AllReadyH.cons rfl (fun K hK => ?_) (AllReadyH.cons rfl (fun K hK => ?_) AllReadyH.nil))
        · go_simp
          go_at_call 144
          refine (P2.out _).mono ?_
          rintro e V3 ⟨rfl, hy⟩
          go_wp2_with fail
          have zy := Ext.size hy
          have hE' := hE.trans hy
          refine hK.out _ _ hE' (fun hHeld => ?_)
          clear hK K
          (try simp only [Act.put, Ord.a, Ord.b, Ord.c])
          replace P13 := P13.ext hy
          replace hE := hE'
          clear hE' hy
          refine wpAnyH_ready (rs := [14]) (by kernel_rfl) (by simp) ?_
          refine (AllReadyH.cons rfl (fun K hK => ?_) AllReadyH.nil)
          go_simp
          have hy : Ext V3 (V3.alloc (.cells #[.int .i64 0, .int .i64 0] 25)) := (Ext.refl V3).alloc _
          have hE' := hE.trans hy
          refine hK.out _ _ hE' (fun hHeld => ?_)
          clear hK K
          (try simp only [Act.put, Ord.a, Ord.b, Ord.c])
          replace P13 := P13.ext hy
          have P14 : Box (V3.alloc (.cells #[.int .i64 0, .int .i64 0] 25)) V3.heap.size [.int .i64 0, .int .i64 0] := Box.new (vs := [.int .i64 0, .int .i64 0]) rfl
          have z14 := Ext.size hE
          have y14 : V3.heap.size < (V3.alloc (.cells #[.int .i64 0, .int .i64 0] 25)).heap.size := by simp
          replace hE := hE'
          clear hE' hy
          generalize V3.alloc (.cells #[.int .i64 0, .int .i64 0] 25) = V4 at *
          refine wpAnyH_ready (rs := [15]) (by kernel_rfl) (by simp) ?_
          refine (AllReadyH.cons rfl (fun K hK => ?_) AllReadyH.nil)
          obtain ⟨⟨r0, r1⟩, r2, r3⟩ := P13.two
          go_simp
          have hE' : Ext W0 ((V4.setCell ⟨V0.heap.size, 0, none⟩ (.int .i64 F.x)).setCell ⟨V0.heap.size, 1, none⟩ (.int .i64 F.y)) := ((hE.setNew (by first | omega | (simp; omega) | simp) _).setNew (by first | omega | (simp; omega) | simp) _)
          refine hK.out _ _ hE' (fun hHeld => ?_)
          clear hK K r0 r1 r2 r3
          (try simp only [Act.put, Ord.a, Ord.b, Ord.c])
          replace P13 := P13.set2 (u := .int .i64 F.x) (v := .int .i64 F.y)
          replace P14 := ((P14.away (p := ⟨V0.heap.size, 0, none⟩) (by simp; omega) (.int .i64 F.x)).away (p := ⟨V0.heap.size, 1, none⟩) (by simp; omega) (.int .i64 F.y))
          replace hE := hE'
          clear hE'
          generalize ((V4.setCell ⟨V0.heap.size, 0, none⟩ (.int .i64 F.x)).setCell ⟨V0.heap.size, 1, none⟩ (.int .i64 F.y)) = V5 at *
          refine wpAnyH_ready (rs := [16]) (by kernel_rfl) (by simp) ?_
          refine (AllReadyH.cons rfl (fun K hK => ?_) AllReadyH.nil)
          obtain ⟨⟨r0, r1⟩, r2, r3⟩ := P14.two
          go_simp
          have hE' : Ext W0 ((V5.setCell ⟨V3.heap.size, 0, none⟩ (.int .i64 G.x)).setCell ⟨V3.heap.size, 1, none⟩ (.int .i64 G.y)) := ((hE.setNew (by first | omega | (simp; omega) | simp) _).setNew (by first | omega | (simp; omega) | simp) _)
          refine hK.out _ _ hE' (fun hHeld => ?_)
          clear hK K r0 r1 r2 r3
          (try simp only [Act.put, Ord.a, Ord.b, Ord.c])
          replace P14 := P14.set2 (u := .int .i64 G.x) (v := .int .i64 G.y)
          replace P13 := ((P13.away (p := ⟨V3.heap.size, 0, none⟩) (by simp; omega) (.int .i64 G.x)).away (p := ⟨V3.heap.size, 1, none⟩) (by simp; omega) (.int .i64 G.y))
          replace hE := hE'
          clear hE'
          generalize ((V5.setCell ⟨V3.heap.size, 0, none⟩ (.int .i64 G.x)).setCell ⟨V3.heap.size, 1, none⟩ (.int .i64 G.y)) = V6 at *
          refine wpAnyH_done (by kernel_rfl) ?_ _
          go_wp2_with fail; go_meet; exact ⟨⟨_, rfl, P13⟩, ⟨_, rfl, P14⟩, hE⟩
        · go_simp
          have hy : Ext V2 (V2.alloc (.cells #[.int .i64 0, .int .i64 0] 25)) := (Ext.refl V2).alloc _
          have hE' := hE.trans hy
          refine hK.out _ _ hE' (fun hHeld => ?_)
          clear hK K
          (try simp only [Act.put, Ord.a, Ord.b, Ord.c])
          replace P13 := P13.ext hy
          have P14 : Box (V2.alloc (.cells #[.int .i64 0, .int .i64 0] 25)) V2.heap.size [.int .i64 0, .int .i64 0] := Box.new (vs := [.int .i64 0, .int .i64 0]) rfl
          have z14 := Ext.size hE
          have y14 : V2.heap.size < (V2.alloc (.cells #[.int .i64 0, .int .i64 0] 25)).heap.size := by simp
          replace hE := hE'
          clear hE' hy
          generalize V2.alloc (.cells #[.int .i64 0, .int .i64 0] 25) = V3 at *
          refine wpAnyH_ready (rs := [12]) (by kernel_rfl) (by simp) ?_
          refine (AllReadyH.cons rfl (fun K hK => ?_) AllReadyH.nil)
          go_simp
          go_at_call 144
          refine (P2.out _).mono ?_
          rintro e V4 ⟨rfl, hy⟩
          go_wp2_with fail
          have zy := Ext.size hy
          have hE' := hE.trans hy
          refine hK.out _ _ hE' (fun hHeld => ?_)
          clear hK K
          (try simp only [Act.put, Ord.a, Ord.b, Ord.c])
          replace P13 := P13.ext hy
          replace P14 := P14.ext hy
          replace hE := hE'
          clear hE' hy
          refine wpAnyH_ready (rs := [15]) (by kernel_rfl) (by simp) ?_
          refine (AllReadyH.cons rfl (fun K hK => ?_) AllReadyH.nil)
          obtain ⟨⟨r0, r1⟩, r2, r3⟩ := P13.two
          go_simp
          have hE' : Ext W0 ((V4.setCell ⟨V0.heap.size, 0, none⟩ (.int .i64 F.x)).setCell ⟨V0.heap.size, 1, none⟩ (.int .i64 F.y)) := ((hE.setNew (by first | omega | (simp; omega) | simp) _).setNew (by first | omega | (simp; omega) | simp) _)
          refine hK.out _ _ hE' (fun hHeld => ?_)
          clear hK K r0 r1 r2 r3
          (try simp only [Act.put, Ord.a, Ord.b, Ord.c])
          replace P13 := P13.set2 (u := .int .i64 F.x) (v := .int .i64 F.y)
          replace P14 := ((P14.away (p := ⟨V0.heap.size, 0, none⟩) (by simp; omega) (.int .i64 F.x)).away (p := ⟨V0.heap.size, 1, none⟩) (by simp; omega) (.int .i64 F.y))
          replace hE := hE'
          clear hE'
          generalize ((V4.setCell ⟨V0.heap.size, 0, none⟩ (.int .i64 F.x)).setCell ⟨V0.heap.size, 1, none⟩ (.int .i64 F.y)) = V5 at *
          refine wpAnyH_ready (rs := [16]) (by kernel_rfl) (by simp) ?_
          refine (AllReadyH.cons rfl (fun K hK => ?_) AllReadyH.nil)
          obtain ⟨⟨r0, r1⟩, r2, r3⟩ := P14.two
          go_simp
          have hE' : Ext W0 ((V5.setCell ⟨V2.heap.size, 0, none⟩ (.int .i64 G.x)).setCell ⟨V2.heap.size, 1, none⟩ (.int .i64 G.y)) := ((hE.setNew (by first | omega | (simp; omega) | simp) _).setNew (by first | omega | (simp; omega) | simp) _)
          refine hK.out _ _ hE' (fun hHeld => ?_)
          clear hK K r0 r1 r2 r3
          (try simp only [Act.put, Ord.a, Ord.b, Ord.c])
          replace P14 := P14.set2 (u := .int .i64 G.x) (v := .int .i64 G.y)
          replace P13 := ((P13.away (p := ⟨V2.heap.size, 0, none⟩) (by simp; omega) (.int .i64 G.x)).away (p := ⟨V2.heap.size, 1, none⟩) (by simp; omega) (.int .i64 G.y))
          replace hE := hE'
          clear hE'
          generalize ((V5.setCell ⟨V2.heap.size, 0, none⟩ (.int .i64 G.x)).setCell ⟨V2.heap.size, 1, none⟩ (.int .i64 G.y)) = V6 at *
          refine wpAnyH_done (by kernel_rfl) ?_ _
          go_wp2_with fail; go_meet; exact ⟨⟨_, rfl, P13⟩, ⟨_, rfl, P14⟩, hE⟩
      · go_simp
        have hy : Ext V1 (V1.alloc (.cells #[.int .i64 0, .int .i64 0] 25)) := (Ext.refl V1).alloc _
        have hE' := hE.trans hy
        refine hK.out _ _ hE' (fun hHeld => ?_)
        clear hK K
        (try simp only [Act.put, Ord.a, Ord.b, Ord.c])
        replace P13 := P13.ext hy
        have P14 : Box (V1.alloc (.cells #[.int .i64 0, .int .i64 0] 25)) V1.heap.size [.int .i64 0, .int .i64 0] := Box.new (vs := [.int .i64 0, .int .i64 0]) rfl
        have z14 := Ext.size hE
        have y14 : V1.heap.size < (V1.alloc (.cells #[.int .i64 0, .int .i64 0] 25)).heap.size := by simp
        replace hE := hE'
        clear hE' hy
        generalize V1.alloc (.cells #[.int .i64 0, .int .i64 0] 25) = V2 at *
        refine wpAnyH_ready (rs := [5]) (by kernel_rfl) (by simp) ?_
        refine (AllReadyH.cons rfl (fun K hK => ?_) AllReadyH.nil)
        go_simp
        go_at_call 144
        refine (P1.out _).mono ?_
        rintro e V3 ⟨rfl, hy⟩
        go_wp2_with fail
        have zy := Ext.size hy
        have hE' := hE.trans hy
        refine hK.out _ _ hE' (fun hHeld => ?_)
        clear hK K
        (try simp only [Act.put, Ord.a, Ord.b, Ord.c])
        replace P13 := P13.ext hy
        replace P14 := P14.ext hy
        replace hE := hE'
        clear hE' hy
        refine wpAnyH_ready (rs := [12]) (by kernel_rfl) (by simp) ?_
        refine (AllReadyH.cons rfl (fun K hK => ?_) AllReadyH.nil)
        go_simp
        go_at_call 144
        refine (P2.out _).mono ?_
        rintro e V4 ⟨rfl, hy⟩
        go_wp2_with fail
        have zy := Ext.size hy
        have hE' := hE.trans hy
        refine hK.out _ _ hE' (fun hHeld => ?_)
        clear hK K
        (try simp only [Act.put, Ord.a, Ord.b, Ord.c])
        replace P13 := P13.ext hy
        replace P14 := P14.ext hy
        replace hE := hE'
        clear hE' hy
        refine wpAnyH_ready (rs := [15]) (by kernel_rfl) (by simp) ?_
        refine (AllReadyH.cons rfl (fun K hK => ?_) AllReadyH.nil)
        obtain ⟨⟨r0, r1⟩, r2, r3⟩ := P13.two
        go_simp
        have hE' : Ext W0 ((V4.setCell ⟨V0.heap.size, 0, none⟩ (.int .i64 F.x)).setCell ⟨V0.heap.size, 1, none⟩ (.int .i64 F.y)) := ((hE.setNew (by first | omega | (simp; omega) | simp) _).setNew (by first | omega | (simp; omega) | simp) _)
        refine hK.out _ _ hE' (fun hHeld => ?_)
        clear hK K r0 r1 r2 r3
        (try simp only [Act.put, Ord.a, Ord.b, Ord.c])
        replace P13 := P13.set2 (u := .int .i64 F.x) (v := .int .i64 F.y)
        replace P14 := ((P14.away (p := ⟨V0.heap.size, 0, none⟩) (by simp; omega) (.int .i64 F.x)).away (p := ⟨V0.heap.size, 1, none⟩) (by simp; omega) (.int .i64 F.y))
        replace hE := hE'
        clear hE'
        generalize ((V4.setCell ⟨V0.heap.size, 0, none⟩ (.int .i64 F.x)).setCell ⟨V0.heap.size, 1, none⟩ (.int .i64 F.y)) = V5 at *
        refine wpAnyH_ready (rs := [16]) (by kernel_rfl) (by simp) ?_
        refine (AllReadyH.cons rfl (fun K hK => ?_) AllReadyH.nil)
        obtain ⟨⟨r0, r1⟩, r2, r3⟩ := P14.two
        go_simp
        have hE' : Ext W0 ((V5.setCell ⟨V1.heap.size, 0, none⟩ (.int .i64 G.x)).setCell ⟨V1.heap.size, 1, none⟩ (.int .i64 G.y)) := ((hE.setNew (by first | omega | (simp; omega) | simp) _).setNew (by first | omega | (simp; omega) | simp) _)
        refine hK.out _ _ hE' (fun hHeld => ?_)
        clear hK K r0 r1 r2 r3
        (try simp only [Act.put, Ord.a, Ord.b, Ord.c])
        replace P14 := P14.set2 (u := .int .i64 G.x) (v := .int .i64 G.y)
        replace P13 := ((P13.away (p := ⟨V1.heap.size, 0, none⟩) (by simp; omega) (.int .i64 G.x)).away (p := ⟨V1.heap.size, 1, none⟩) (by simp; omega) (.int .i64 G.y))
        replace hE := hE'
        clear hE'
        generalize ((V5.setCell ⟨V1.heap.size, 0, none⟩ (.int .i64 G.x)).setCell ⟨V1.heap.size, 1, none⟩ (.int .i64 G.y)) = V6 at *
        refine wpAnyH_done (by kernel_rfl) ?_ _
        go_wp2_with fail; go_meet; exact ⟨⟨_, rfl, P13⟩, ⟨_, rfl, P14⟩, hE⟩
    · go_simp
      have hy : Ext V0 (V0.alloc (.cells #[.int .i64 0, .int .i64 0] 25)) := (Ext.refl V0).alloc _
      have hE' := hE.trans hy
      refine hK.out _ _ hE' (fun hHeld => ?_)
      clear hK K
      (try simp only [Act.put, Ord.a, Ord.b, Ord.c])
      have P14 : Box (V0.alloc (.cells #[.int .i64 0, .int .i64 0] 25)) V0.heap.size [.int .i64 0, .int .i64 0] := Box.new (vs := [.int .i64 0, .int .i64 0]) rfl
      have z14 := Ext.size hE
      have y14 : V0.heap.size < (V0.alloc (.cells #[.int .i64 0, .int .i64 0] 25)).heap.size := by simp
      replace hE := hE'
      clear hE' hy
      generalize V0.alloc (.cells #[.int .i64 0, .int .i64 0] 25) = V1 at *
      refine wpAnyH_ready (rs := [5, 13]) (by kernel_rfl) (by simp) ?_
      refine (AllReadyH.cons rfl (fun K hK => ?_) (AllReadyH.cons rfl (fun K hK => ?_) AllReadyH.nil))
      · go_simp
        go_at_call 144
        refine (P1.out _).mono ?_
        rintro e V2 ⟨rfl, hy⟩
        go_wp2_with fail
        have zy := Ext.size hy
        have hE' := hE.trans hy
        refine hK.out _ _ hE' (fun hHeld => ?_)
        clear hK K
        (try simp only [Act.put, Ord.a, Ord.b, Ord.c])
        replace P14 := P14.ext hy
        replace hE := hE'
        clear hE' hy
        refine wpAnyH_ready (rs := [12, 13]) (by kernel_rfl) (by simp) ?_
        refine (AllReadyH.cons rfl (fun K hK => ?_) (AllReadyH.cons rfl (fun K hK => ?_) AllReadyH.nil))
        · go_simp
          go_at_call 144
          refine (P2.out _).mono ?_
          rintro e V3 ⟨rfl, hy⟩
          go_wp2_with fail
          have zy := Ext.size hy
          have hE' := hE.trans hy
          refine hK.out _ _ hE' (fun hHeld => ?_)
          clear hK K
          (try simp only [Act.put, Ord.a, Ord.b, Ord.c])
          replace P14 := P14.ext hy
          replace hE := hE'
          clear hE' hy
          refine wpAnyH_ready (rs := [13]) (by kernel_rfl) (by simp) ?_
          refine (AllReadyH.cons rfl (fun K hK => ?_) AllReadyH.nil)
          go_simp
          have hy : Ext V3 (V3.alloc (.cells #[.int .i64 0, .int .i64 0] 25)) := (Ext.refl V3).alloc _
          have hE' := hE.trans hy
          refine hK.out _ _ hE' (fun hHeld => ?_)
          clear hK K
          (try simp only [Act.put, Ord.a, Ord.b, Ord.c])
          replace P14 := P14.ext hy
          have P13 : Box (V3.alloc (.cells #[.int .i64 0, .int .i64 0] 25)) V3.heap.size [.int .i64 0, .int .i64 0] := Box.new (vs := [.int .i64 0, .int .i64 0]) rfl
          have z13 := Ext.size hE
          have y13 : V3.heap.size < (V3.alloc (.cells #[.int .i64 0, .int .i64 0] 25)).heap.size := by simp
          replace hE := hE'
          clear hE' hy
          generalize V3.alloc (.cells #[.int .i64 0, .int .i64 0] 25) = V4 at *
          refine wpAnyH_ready (rs := [15]) (by kernel_rfl) (by simp) ?_
          refine (AllReadyH.cons rfl (fun K hK => ?_) AllReadyH.nil)
          obtain ⟨⟨r0, r1⟩, r2, r3⟩ := P13.two
          go_simp
          have hE' : Ext W0 ((V4.setCell ⟨V3.heap.size, 0, none⟩ (.int .i64 F.x)).setCell ⟨V3.heap.size, 1, none⟩ (.int .i64 F.y)) := ((hE.setNew (by first | omega | (simp; omega) | simp) _).setNew (by first | omega | (simp; omega) | simp) _)
          refine hK.out _ _ hE' (fun hHeld => ?_)
          clear hK K r0 r1 r2 r3
          (try simp only [Act.put, Ord.a, Ord.b, Ord.c])
          replace P13 := P13.set2 (u := .int .i64 F.x) (v := .int .i64 F.y)
          replace P14 := ((P14.away (p := ⟨V3.heap.size, 0, none⟩) (by simp; omega) (.int .i64 F.x)).away (p := ⟨V3.heap.size, 1, none⟩) (by simp; omega) (.int .i64 F.y))
          replace hE := hE'
          clear hE'
          generalize ((V4.setCell ⟨V3.heap.size, 0, none⟩ (.int .i64 F.x)).setCell ⟨V3.heap.size, 1, none⟩ (.int .i64 F.y)) = V5 at *
          refine wpAnyH_ready (rs := [16]) (by kernel_rfl) (by simp) ?_
          refine (AllReadyH.cons rfl (fun K hK => ?_) AllReadyH.nil)
          obtain ⟨⟨r0, r1⟩, r2, r3⟩ := P14.two
          go_simp
          have hE' : Ext W0 ((V5.setCell ⟨V0.heap.size, 0, none⟩ (.int .i64 G.x)).setCell ⟨V0.heap.size, 1, none⟩ (.int .i64 G.y)) := ((hE.setNew (by first | omega | (simp; omega) | simp) _).setNew (by first | omega | (simp; omega) | simp) _)
          refine hK.out _ _ hE' (fun hHeld => ?_)
          clear hK K r0 r1 r2 r3
          (try simp only [Act.put, Ord.a, Ord.b, Ord.c])
          replace P14 := P14.set2 (u := .int .i64 G.x) (v := .int .i64 G.y)
          replace P13 := ((P13.away (p := ⟨V0.heap.size, 0, none⟩) (by simp; omega) (.int .i64 G.x)).away (p := ⟨V0.heap.size, 1, none⟩) (by simp; omega) (.int .i64 G.y))
          replace hE := hE'
          clear hE'
          generalize ((V5.setCell ⟨V0.heap.size, 0, none⟩ (.int .i64 G.x)).setCell ⟨V0.heap.size, 1, none⟩ (.int .i64 G.y)) = V6 at *
          refine wpAnyH_done (by kernel_rfl) ?_ _
          go_wp2_with fail; go_meet; exact ⟨⟨_, rfl, P13⟩, ⟨_, rfl, P14⟩, hE⟩
        · go_simp
          have hy : Ext V2 (V2.alloc (.cells #[.int .i64 0, .int .i64 0] 25)) := (Ext.refl V2).alloc _
          have hE' := hE.trans hy
          refine hK.out _ _ hE' (fun hHeld => ?_)
          clear hK K
          (try simp only [Act.put, Ord.a, Ord.b, Ord.c])
          replace P14 := P14.ext hy
          have P13 : Box (V2.alloc (.cells #[.int .i64 0, .int .i64 0] 25)) V2.heap.size [.int .i64 0, .int .i64 0] := Box.new (vs := [.int .i64 0, .int .i64 0]) rfl
          have z13 := Ext.size hE
          have y13 : V2.heap.size < (V2.alloc (.cells #[.int .i64 0, .int .i64 0] 25)).heap.size := by simp
          replace hE := hE'
          clear hE' hy
          generalize V2.alloc (.cells #[.int .i64 0, .int .i64 0] 25) = V3 at *
          refine wpAnyH_ready (rs := [12]) (by kernel_rfl) (by simp) ?_
          refine (AllReadyH.cons rfl (fun K hK => ?_) AllReadyH.nil)
          go_simp
          go_at_call 144
          refine (P2.out _).mono ?_
          rintro e V4 ⟨rfl, hy⟩
          go_wp2_with fail
          have zy := Ext.size hy
          have hE' := hE.trans hy
          refine hK.out _ _ hE' (fun hHeld => ?_)
          clear hK K
          (try simp only [Act.put, Ord.a, Ord.b, Ord.c])
          replace P14 := P14.ext hy
          replace P13 := P13.ext hy
          replace hE := hE'
          clear hE' hy
          refine wpAnyH_ready (rs := [15]) (by kernel_rfl) (by simp) ?_
          refine (AllReadyH.cons rfl (fun K hK => ?_) AllReadyH.nil)
          obtain ⟨⟨r0, r1⟩, r2, r3⟩ := P13.two
          go_simp
          have hE' : Ext W0 ((V4.setCell ⟨V2.heap.size, 0, none⟩ (.int .i64 F.x)).setCell ⟨V2.heap.size, 1, none⟩ (.int .i64 F.y)) := ((hE.setNew (by first | omega | (simp; omega) | simp) _).setNew (by first | omega | (simp; omega) | simp) _)
          refine hK.out _ _ hE' (fun hHeld => ?_)
          clear hK K r0 r1 r2 r3
          (try simp only [Act.put, Ord.a, Ord.b, Ord.c])
          replace P13 := P13.set2 (u := .int .i64 F.x) (v := .int .i64 F.y)
          replace P14 := ((P14.away (p := ⟨V2.heap.size, 0, none⟩) (by simp; omega) (.int .i64 F.x)).away (p := ⟨V2.heap.size, 1, none⟩) (by simp; omega) (.int .i64 F.y))
          replace hE := hE'
          clear hE'
          generalize ((V4.setCell ⟨V2.heap.size, 0, none⟩ (.int .i64 F.x)).setCell ⟨V2.heap.size, 1, none⟩ (.int .i64 F.y)) = V5 at *
          refine wpAnyH_ready (rs := [16]) (by kernel_rfl) (by simp) ?_
          refine (AllReadyH.cons rfl (fun K hK => ?_) AllReadyH.nil)
          obtain ⟨⟨r0, r1⟩, r2, r3⟩ := P14.two
          go_simp
          have hE' : Ext W0 ((V5.setCell ⟨V0.heap.size, 0, none⟩ (.int .i64 G.x)).setCell ⟨V0.heap.size, 1, none⟩ (.int .i64 G.y)) := ((hE.setNew (by first | omega | (simp; omega) | simp) _).setNew (by first | omega | (simp; omega) | simp) _)
          refine hK.out _ _ hE' (fun hHeld => ?_)
          clear hK K r0 r1 r2 r3
          (try simp only [Act.put, Ord.a, Ord.b, Ord.c])
          replace P14 := P14.set2 (u := .int .i64 G.x) (v := .int .i64 G.y)
          replace P13 := ((P13.away (p := ⟨V0.heap.size, 0, none⟩) (by simp; omega) (.int .i64 G.x)).away (p := ⟨V0.heap.size, 1, none⟩) (by simp; omega) (.int .i64 G.y))
          replace hE := hE'
          clear hE'
          generalize ((V5.setCell ⟨V0.heap.size, 0, none⟩ (.int .i64 G.x)).setCell ⟨V0.heap.size, 1, none⟩ (.int .i64 G.y)) = V6 at *
          refine wpAnyH_done (by kernel_rfl) ?_ _
          go_wp2_with fail; go_meet; exact ⟨⟨_, rfl, P13⟩, ⟨_, rfl, P14⟩, hE⟩
      · go_simp
        have hy : Ext V1 (V1.alloc (.cells #[.int .i64 0, .int .i64 0] 25)) := (Ext.refl V1).alloc _
        have hE' := hE.trans hy
        refine hK.out _ _ hE' (fun hHeld => ?_)
        clear hK K
        (try simp only [Act.put, Ord.a, Ord.b, Ord.c])
        replace P14 := P14.ext hy
        have P13 : Box (V1.alloc (.cells #[.int .i64 0, .int .i64 0] 25)) V1.heap.size [.int .i64 0, .int .i64 0] := Box.new (vs := [.int .i64 0, .int .i64 0]) rfl
        have z13 := Ext.size hE
        have y13 : V1.heap.size < (V1.alloc (.cells #[.int .i64 0, .int .i64 0] 25)).heap.size := by simp
        replace hE := hE'
        clear hE' hy
        generalize V1.alloc (.cells #[.int .i64 0, .int .i64 0] 25) = V2 at *
        refine wpAnyH_ready (rs := [5]) (by kernel_rfl) (by simp) ?_
        refine (AllReadyH.cons rfl (fun K hK => ?_) AllReadyH.nil)
        go_simp
        go_at_call 144
        refine (P1.out _).mono ?_
        rintro e V3 ⟨rfl, hy⟩
        go_wp2_with fail
        have zy := Ext.size hy
        have hE' := hE.trans hy
        refine hK.out _ _ hE' (fun hHeld => ?_)
        clear hK K
        (try simp only [Act.put, Ord.a, Ord.b, Ord.c])
        replace P14 := P14.ext hy
        replace P13 := P13.ext hy
        replace hE := hE'
        clear hE' hy
        refine wpAnyH_ready (rs := [12]) (by kernel_rfl) (by simp) ?_
        refine (AllReadyH.cons rfl (fun K hK => ?_) AllReadyH.nil)
        go_simp
        go_at_call 144
        refine (P2.out _).mono ?_
        rintro e V4 ⟨rfl, hy⟩
        go_wp2_with fail
        have zy := Ext.size hy
        have hE' := hE.trans hy
        refine hK.out _ _ hE' (fun hHeld => ?_)
        clear hK K
        (try simp only [Act.put, Ord.a, Ord.b, Ord.c])
        replace P14 := P14.ext hy
        replace P13 := P13.ext hy
        replace hE := hE'
        clear hE' hy
        refine wpAnyH_ready (rs := [15]) (by kernel_rfl) (by simp) ?_
        refine (AllReadyH.cons rfl (fun K hK => ?_) AllReadyH.nil)
        obtain ⟨⟨r0, r1⟩, r2, r3⟩ := P13.two
        go_simp
        have hE' : Ext W0 ((V4.setCell ⟨V1.heap.size, 0, none⟩ (.int .i64 F.x)).setCell ⟨V1.heap.size, 1, none⟩ (.int .i64 F.y)) := ((hE.setNew (by first | omega | (simp; omega) | simp) _).setNew (by first | omega | (simp; omega) | simp) _)
        refine hK.out _ _ hE' (fun hHeld => ?_)
        clear hK K r0 r1 r2 r3
        (try simp only [Act.put, Ord.a, Ord.b, Ord.c])
        replace P13 := P13.set2 (u := .int .i64 F.x) (v := .int .i64 F.y)
        replace P14 := ((P14.away (p := ⟨V1.heap.size, 0, none⟩) (by simp; omega) (.int .i64 F.x)).away (p := ⟨V1.heap.size, 1, none⟩) (by simp; omega) (.int .i64 F.y))
        replace hE := hE'
        clear hE'
        generalize ((V4.setCell ⟨V1.heap.size, 0, none⟩ (.int .i64 F.x)).setCell ⟨V1.heap.size, 1, none⟩ (.int .i64 F.y)) = V5 at *
        refine wpAnyH_ready (rs := [16]) (by kernel_rfl) (by simp) ?_
        refine (AllReadyH.cons rfl (fun K hK => ?_) AllReadyH.nil)
        obtain ⟨⟨r0, r1⟩, r2, r3⟩ := P14.two
        go_simp
        have hE' : Ext W0 ((V5.setCell ⟨V0.heap.size, 0, none⟩ (.int .i64 G.x)).setCell ⟨V0.heap.size, 1, none⟩ (.int .i64 G.y)) := ((hE.setNew (by first | omega | (simp; omega) | simp) _).setNew (by first | omega | (simp; omega) | simp) _)
        refine hK.out _ _ hE' (fun hHeld => ?_)
        clear hK K r0 r1 r2 r3
        (try simp only [Act.put, Ord.a, Ord.b, Ord.c])
        replace P14 := P14.set2 (u := .int .i64 G.x) (v := .int .i64 G.y)
        replace P13 := ((P13.away (p := ⟨V0.heap.size, 0, none⟩) (by simp; omega) (.int .i64 G.x)).away (p := ⟨V0.heap.size, 1, none⟩) (by simp; omega) (.int .i64 G.y))
        replace hE := hE'
        clear hE'
        generalize ((V5.setCell ⟨V0.heap.size, 0, none⟩ (.int .i64 G.x)).setCell ⟨V0.heap.size, 1, none⟩ (.int .i64 G.y)) = V6 at *
        refine wpAnyH_done (by kernel_rfl) ?_ _
        go_wp2_with fail; go_meet; exact ⟨⟨_, rfl, P13⟩, ⟨_, rfl, P14⟩, hE⟩
  case rest =>
    obtain ⟨⟨B7, rfl, P7⟩, ⟨B8, rfl, P8⟩, X1⟩ := hcut
    obtain ⟨⟨g0, g1⟩, _⟩ := P7.two
    obtain ⟨⟨g2, g3⟩, _⟩ := P8.two
    have m0 := e00 _ X1
    have m1 := e01 _ X1
    have m2 := e02 _ X1
    have m4 := e04 _ X1
    clear ec0 ec1 ec2 ed0 ed1 ed2
    by_cases h : F.x = G.x ∧ F.y = G.y
    · have q1 : (F.x == G.x) = true := beq_iff_eq.2 h.1
      have q2 : (F.y == G.y) = true := beq_iff_eq.2 h.2
      have H := Lib.hid (show tgB m fs i = decide (sqD F.x F.y m.x m.y ≤ m.z * m.z) by rw [HT.out]; exact if_pos h)
      obtain ⟨S, hS⟩ : ∃ S, S = sqD F.x F.y m.x m.y := ⟨_, rfl⟩
      rw [← hS] at H PQ
      clear hS h
      have f70 : ∀ w', Ext wc w' → w'.cell? ⟨B7, 0, none⟩ = some (.int .i64 F.x) := fun w' h => h.cellOf g0
      have f71 : ∀ w', Ext wc w' → w'.cell? ⟨B7, 1, none⟩ = some (.int .i64 F.y) := fun w' h => h.cellOf g1
      have f01 : ∀ w', Ext wc w' → w'.cell? ⟨w.heap.size, 1, none⟩ = some (.int .i64 m.x) := fun w' h => h.cellOf m1
      have f02 : ∀ w', Ext wc w' → w'.cell? ⟨w.heap.size, 2, none⟩ = some (.int .i64 m.y) := fun w' h => h.cellOf m2
      have f04 : ∀ w', Ext wc w' → w'.cell? ⟨w.heap.size, 4, none⟩ = some (.int .i64 m.z) := fun w' h => h.cellOf m4
      have hr := Ext.refl wc
      go_upto_region 3 with fail
      clear g0 g1 g2 g3 m0 m1 m2 m4
      refine wp_region_held_drew (S := (fun w' => Ext wc w')) (by kernel_rfl) (by (try dsimp only); first | go_keep | exact (Ext.refl _).drew | exact Res.new2.drew | exact Res.new4.drew | exact ResB.drew (by assumption) | exact ResC.drew (by assumption) | assumption | exact Ext.drew (by assumption) | exact Res.drew (by assumption)) (fun hHeld => ?_)
      refine Ord.K 0 25 ?_
      refine Ord.K 1 26 ?_
      refine Ord.K 2 27 ?_
      refine Ord.K 4 29 ?_
      refine Ord.K 5 30 ?_
      refine Ord.K 6 31 ?_
      refine Ord.K 7 32 ?_
      refine Ord.K 8 33 ?_
      (refine wpAnyH_ready (rs := [3]) (by kernel_rfl) (by simp) ?_; refine AllReadyH.cons rfl (fun K hK => ?_) AllReadyH.nil; go_simp; (go_at_call 205; refine (PQ.out _).mono ?_; rintro e w4 ⟨rfl, hy⟩); go_wp2_with fail; (refine hK.out _ _ (by first | assumption | exact Ext.trans (by assumption) hy | exact Res.ext (by assumption) hy | exact ResB.ext (by assumption) hy | exact ResC.ext (by assumption) hy | (go_split_ands; (repeat' apply And.intro) <;> exact Ext.cellOf hy (by assumption))) (fun hHeld => ?_)); clear hK K; (try simp only [Act.put, Ord.a, Ord.b, Ord.c]))
      refine Ord.K 9 34 ?_
      refine Ord.K 10 6 ?_
      refine wpAnyH_done (by kernel_rfl) ?_ _
      go_wp2
      go_ret
      exact ⟨ret_bool H.out, hX.trans (X1.trans hHeld)⟩
    · have H := Lib.hid (show tgB m fs i = wiB F.x F.y G.x G.y m.x m.y m.z by rw [HT.out]; exact if_neg h)
      have PW2 := Lib.hid (fun w' => PW.out w' h)
      cases q1 : (F.x == G.x)
      · clear h
        go_wp2_with fail
        refine (PW2.out _).mono ?_
        rintro e w4 ⟨rfl, hy⟩
        go_wp2
        go_ret
        exact ⟨ret_bool H.out, hX.trans (X1.trans hy)⟩
      · have q2 : (F.y == G.y) = false := beq_eq_false_iff_ne.2 (fun e => h ⟨beq_iff_eq.1 q1, e⟩)
        clear h
        go_wp2_with fail
        refine (PW2.out _).mono ?_
        rintro e w4 ⟨rfl, hy⟩
        go_wp2
        go_ret
        exact ⟨ret_bool H.out, hX.trans (X1.trans hy)⟩
end Go.Proofs.YtmlojndkpnhalaaGreat.Crs
