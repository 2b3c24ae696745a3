import Derived.Test.YtplbahdomjeekaaGreatZon
import Derived.Test.YtplbahdomjeekaaGreatOrd
import Derived.Deep.DeepCutAuto
namespace Go.Proofs.YtplbahdomjeekaaGreat.Crs
open Go.ChangeShapes Go.WideShapes Go.ChangeAt Go.RowKit Go.PlainAid
open Go.Proofs.YtplbahdomjeekaaGreat.Num Go.Proofs.YtplbahdomjeekaaGreat.Kit Go.Proofs.YtplbahdomjeekaaGreat.Pts Go.Proofs.YtplbahdomjeekaaGreat.Seg Go.Proofs.YtplbahdomjeekaaGreat.Div Go.Proofs.YtplbahdomjeekaaGreat.Root Go.Proofs.YtplbahdomjeekaaGreat.Rt Go.Proofs.YtplbahdomjeekaaGreat.Gcd
open Go.Proofs.YtplbahdomjeekaaGreat.Trk (F3 Fxs Tr trB fx lastB legOf pkX pkY)

set_option linter.unusedVariables false
set_option linter.unusedSimpArgs false
set_option maxRecDepth 100000 in
set_option maxHeartbeats 4000000 in
theorem l07Code_spec (l k : L4) (a : Option Addr) (cap : Nat) (ms : List M5) (n : Int) (at_ : Option Addr) (ct : Nat) (fs : List F3) (w : World) (hf : Mks w a ms) (ht : Fxs w at_ fs) :
    Calls Tryz.prog 73 #[CV l k (.slice a ms.length cap), .int .i64 n, Tr (.slice at_ fs.length ct)] w fun e w' => e = .returned (.int .i64 (mfC l k ms (trB fs) n)) ∧ Ext w w' := by
  obtain ⟨W0, hW0⟩ : ∃ W0, W0 = (w.alloc (.cells (cellsC l k (.slice a ms.length cap)).toArray 30)).alloc (.cells #[.slice at_ fs.length ct] 33) := ⟨_, rfl⟩
  have HW := Lib.hid (show Ext w W0 from hW0 ▸ ((Ext.refl w).alloc _).alloc _)
  have BB := Lib.hid (show Box W0 w.heap.size (cellsC l k (.slice a ms.length cap)) from hW0 ▸ (Box.new rfl).alloc _)
  have CT := Lib.hid (show W0.cell? ⟨w.heap.size + 1, 0, none⟩ = some (.slice at_ fs.length ct) from hW0 ▸ boxed 0 rfl (by simp))
  have HF := Lib.hid (hf.ext HW.out)
  have HT := Lib.hid (ht.ext HW.out)
  have hm := hf.1.1
  unfold maxLen at hm
  clear hf ht
  cases hq : crB l k ms
  · have H := Lib.hid (mf_bad (l := l) (k := k) (ms := ms) (ok := trB fs) (n := n) (.inl hq))
    go_enter Tryz.func73, Tryz.ntmps73
    go_wp2_with fail
    rw [← hW0]
    clear hW0
    refine (isCourse_spec _ _ _ _ _ _ HF.out).mono ?_
    rw [hq]
    rintro e w1 ⟨rfl, hx⟩
    go_wp2
    go_ret
    exact ⟨ret_int H.out, HW.out.trans hx⟩
  cases hv : trB fs
  · have H := Lib.hid (mf_bad (l := l) (k := k) (ms := ms) (ok := false) (n := n) (.inr rfl))
    go_enter Tryz.func73, Tryz.ntmps73
    go_wp2_with fail
    rw [← hW0]
    clear hW0
    refine (isCourse_spec _ _ _ _ _ _ HF.out).mono ?_
    rw [hq]
    rintro e w1 ⟨rfl, hx⟩
    have c0 := hx.cellOf CT.out
    go_wp2_with fail
    refine (Trk.isTrack_spec _ _ _ _ (HT.out.ext hx)).mono ?_
    rw [hv]
    rintro e w2 ⟨rfl, hy⟩
    go_wp2
    go_ret
    exact ⟨ret_int H.out, HW.out.trans (hx.trans hy)⟩
  have h1 : 1 ≤ ms.length := by
    unfold crB at hq; simp only [Bool.and_eq_true, decide_eq_true_eq] at hq; exact hq.1
  have T1 : IntKind.i64.wrap ((ms.length : Int) - 1) = (ms.length : Int) - 1 := IntWalk.i64_in _ (by omega)
  by_cases h0 : 0 ≤ n ∧ n < ms.length
  · have H := Lib.hid (mf_yes (ok := true) hq rfl h0)
    have hin := inB_yes (n := n) (lo := 0) (hi := (ms.length : Int) - 1) h0.1 (by omega)
    clear h0
    go_enter Tryz.func73, Tryz.ntmps73
    go_wp2_with fail
    rw [← hW0]
    clear hW0
    refine (isCourse_spec _ _ _ _ _ _ HF.out).mono ?_
    rw [hq]
    rintro e w1 ⟨rfl, hx⟩
    have c0 := hx.cellOf CT.out
    go_wp2_with fail
    refine (Trk.isTrack_spec _ _ _ _ (HT.out.ext hx)).mono ?_
    rw [hv]
    rintro e w2 ⟨rfl, hy⟩
    obtain ⟨⟨p0, p1, p2, p3, p4, p5, p6, p7, p8⟩, _⟩ := Box.nine (BB.out.ext (hx.trans hy))
    go_wp2_with fail
    refine (in_any _ _ _ _).mono ?_
    rw [hin]
    rintro e w3 ⟨rfl, rfl⟩
    go_wp2
    go_ret
    exact ⟨ret_int H.out, HW.out.trans (hx.trans hy)⟩
  · have H := Lib.hid (mf_out (ok := true) hq rfl h0)
    have hin := inB_no (n := n) (lo := 0) (hi := (ms.length : Int) - 1) (by omega)
    clear h0
    go_enter Tryz.func73, Tryz.ntmps73
    go_wp2_with fail
    rw [← hW0]
    clear hW0
    refine (isCourse_spec _ _ _ _ _ _ HF.out).mono ?_
    rw [hq]
    rintro e w1 ⟨rfl, hx⟩
    have c0 := hx.cellOf CT.out
    go_wp2_with fail
    refine (Trk.isTrack_spec _ _ _ _ (HT.out.ext hx)).mono ?_
    rw [hv]
    rintro e w2 ⟨rfl, hy⟩
    obtain ⟨⟨p0, p1, p2, p3, p4, p5, p6, p7, p8⟩, _⟩ := Box.nine (BB.out.ext (hx.trans hy))
    go_wp2_with fail
    refine (in_any _ _ _ _).mono ?_
    rw [hin]
    rintro e w3 ⟨rfl, rfl⟩
    go_wp2
    go_ret
    exact ⟨ret_int H.out, HW.out.trans (hx.trans hy)⟩
theorem pick_fixes {w : World} {a : Option Addr} {fs : List F3} (hf : Fxs w a fs) {i : Nat} (hi : i + 1 < fs.length) :
    ∃ b off, a = some ⟨b, off, none⟩ ∧ Trk.At w b (off + i * 3) (fx fs i) ∧ Trk.At w b (off + (i + 1) * 3) (fx fs (i + 1)) := by
  rcases hf.2 with h | ⟨b, off, ha, hb⟩
  · rw [h] at hi; simp at hi
  · exact ⟨b, off, ha, hb i (by omega), hb (i + 1) hi⟩
theorem nsp_done {n : Nat} {w F : World} {tmps : Array Value} {x y : Int} {x' y' : Int} (B : Box F n [.int .i64 x, .int .i64 y]) (hC : Ext w F) (ha : tmps[6]? = some (.pointer (some ⟨n, 0, none⟩))) (h : x' = x) (g : y' = y) :
    bodyPost Tryz.prog Tryz.f89 (fun e w' => e = .returned (Pt x' y') ∧ Ext w w') Exit.ret ⟨tmps, []⟩ F := by
  obtain ⟨⟨g0, g1⟩, _⟩ := B.two
  subst h g
  exact bodyPost_ret (v := Pt x' y') (by simp [results, Tryz.results89, go_sem, ha, g0, g1]) rfl ⟨rfl, hC⟩
set_option maxRecDepth 100000 in
set_option maxHeartbeats 8000000 in
theorem l07Near_spec (m : M5) (a : Option Addr) (cap : Nat) (fs : List F3) (i : Nat) (w : World) (hf : Fxs w a fs) (hi : i + 1 < fs.length) (hv : trB fs = true) (hm : mkB m = true) :
    Calls Tryz.prog 89 #[Tr (.slice a fs.length cap), .int .i64 i, Pt m.x m.y] w fun e w' => e = .returned (Pt (nlX m fs i) (nlY m fs i)) ∧ Ext w w' := by
  obtain ⟨⟨h2, h40⟩, hok⟩ := Trk.trB_yes hv
  obtain ⟨⟨mx, my⟩, _, z1, z2⟩ := mk_yes hm
  obtain ⟨_, ca, cb⟩ := Trk.fxB_yes (Trk.okB_fx (hok i (by omega)))
  obtain ⟨_, cc, cd⟩ := Trk.fxB_yes (Trk.okB_fx (hok (i + 1) hi))
  obtain ⟨b, off, rfl, ⟨c0, c1, c2⟩, ⟨d0, d1, d2⟩⟩ := pick_fixes hf hi
  obtain ⟨F, hF⟩ : ∃ F, F = fx fs i := ⟨_, rfl⟩
  obtain ⟨G, hG⟩ : ∃ G, G = fx fs (i + 1) := ⟨_, rfl⟩
  have HX := Lib.hid (show nlX m fs i = npX F.x F.y G.x G.y m.x m.y by rw [hF, hG]; rfl)
  have HY := Lib.hid (show nlY m fs i = npY F.x F.y G.x G.y m.x m.y by rw [hF, hG]; rfl)
  rw [← hF] at c0 c1 c2 ca cb
  rw [← hG] at d0 d1 d2 cc cd
  have i0 : (0 : Int) ≤ (i : Int) := by omega
  have i1 : (i : Int) < (fs.length : Int) := by omega
  have i2 : (0 : Int) ≤ (i : Int) + 1 := by omega
  have i3 : (i : Int) + 1 < (fs.length : Int) := by omega
  have T0 : IntKind.i64.wrap ((i : Int) + 1) = (i : Int) + 1 := IntWalk.i64_in _ (by omega)
  have T1 : ((i : Int) + 1).toNat = i + 1 := by omega
  have P1 := Lib.hid (fun w' => Trk.point_spec F.t F.x F.y w')
  have P2 := Lib.hid (fun w' => Trk.point_spec G.t G.x G.y w')
  have PN := Lib.hid (fun w' h => nearestS_any F.x F.y G.x G.y m.x m.y w' ca cb cc cd mx my h)
  have ND := Lib.hid (fun h => ne_bd (a := F.x) (b := F.y) (c := G.x) (d := G.y) (p := m.x) (q := m.y) ca cb cc cd h)
  have PA := Lib.hid (fun N D w' (k1 : 0 ≤ N) (k2 : N ≤ D) (d1 : 1 ≤ D) (d2 : D ≤ 8000000000000) => atS_any F.x G.x N D w' ca cc k1 k2 d1 (by omega))
  have PB := Lib.hid (fun N D w' (k1 : 0 ≤ N) (k2 : N ≤ D) (d1 : 1 ≤ D) (d2 : D ≤ 8000000000000) => atS_any F.y G.y N D w' cb cd k1 k2 d1 (by omega))
  clear hF hG hf hok hv hm ca cb cc cd mx my z1 z2
  obtain ⟨p, hp⟩ : ∃ p, p = m.x := ⟨_, rfl⟩
  obtain ⟨q, hq⟩ : ∃ q, q = m.y := ⟨_, rfl⟩
  rw [← hp, ← hq] at HX HY PN ND ⊢
  clear hp hq
  obtain ⟨W0, hW0⟩ : ∃ W0, W0 = ((w.alloc (.cells #[.slice (some ⟨b, off, none⟩) fs.length cap] 33)).alloc (.cells #[.int .i64 p, .int .i64 q] 25)).alloc (.cells #[.int .i64 0, .int .i64 0] 25) := ⟨_, rfl⟩
  have hX : Ext w W0 := hW0 ▸ ((((Ext.refl w).alloc _).alloc _).alloc _)
  have hs0 : W0.heap.size = w.heap.size + 1 + 1 + 1 := by rw [hW0]; simp
  have e00 : ∀ w', (Ext W0) w' → w'.cell? ⟨w.heap.size, 0, none⟩ = some (.slice (some ⟨b, off, none⟩) fs.length cap) := fun w' h => h.cellOf (by rw [hW0]; exact (((Ext.refl _).alloc _).alloc _).cellOf (boxed 0 rfl (by simp)))
  have e10 : ∀ w', (Ext W0) w' → w'.cell? ⟨w.heap.size + 1, 0, none⟩ = some (.int .i64 p) := fun w' h => h.cellOf (by rw [hW0]; exact ((Ext.refl _).alloc _).cellOf (boxed 0 rfl (by simp)))
  have e11 : ∀ w', (Ext W0) w' → w'.cell? ⟨w.heap.size + 1, 1, none⟩ = some (.int .i64 q) := fun w' h => h.cellOf (by rw [hW0]; exact ((Ext.refl _).alloc _).cellOf (boxed 1 rfl (by simp)))
  have e20 : ∀ w', (Ext W0) w' → w'.cell? ⟨w.heap.size + 1 + 1, 0, none⟩ = some (.int .i64 0) := fun w' h => h.cellOf (by rw [hW0]; exact boxed 0 rfl (by simp))
  have e21 : ∀ w', (Ext W0) w' → w'.cell? ⟨w.heap.size + 1 + 1, 1, none⟩ = some (.int .i64 0) := fun w' h => h.cellOf (by rw [hW0]; exact boxed 1 rfl (by simp))
  have HB := Lib.hid (show Box W0 (w.heap.size + 1 + 1) [.int .i64 0, .int .i64 0] by rw [hW0]; exact Box.new2 (by simp))
  have ec0 : ∀ w', Ext W0 w' → w'.cell? ⟨b, off + i * 3, none⟩ = some (.int .i64 F.t) := fun w' h => h.cellOf (hX.cellOf c0)
  have ec1 : ∀ w', Ext W0 w' → w'.cell? ⟨b, off + i * 3 + 1, none⟩ = some (.int .i64 F.x) := fun w' h => h.cellOf (hX.cellOf c1)
  have ec2 : ∀ w', Ext W0 w' → w'.cell? ⟨b, off + i * 3 + 2, none⟩ = some (.int .i64 F.y) := fun w' h => h.cellOf (hX.cellOf c2)
  have ed0 : ∀ w', Ext W0 w' → w'.cell? ⟨b, off + (i + 1) * 3, none⟩ = some (.int .i64 G.t) := fun w' h => h.cellOf (hX.cellOf d0)
  have ed1 : ∀ w', Ext W0 w' → w'.cell? ⟨b, off + (i + 1) * 3 + 1, none⟩ = some (.int .i64 G.x) := fun w' h => h.cellOf (hX.cellOf d1)
  have ed2 : ∀ w', Ext W0 w' → w'.cell? ⟨b, off + (i + 1) * 3 + 2, none⟩ = some (.int .i64 G.y) := fun w' h => h.cellOf (hX.cellOf d2)
  clear c0 c1 c2 d0 d1 d2
  go_enter Tryz.func89, Tryz.ntmps89
  go_upto_region 1 with fail
  rw [← hW0]
  clear hW0
  go_cut [7, 8] (fun s s2 wx => (∃ B, s = .pointer (some ⟨B, 0, none⟩) ∧ w.heap.size + 1 + 1 < B ∧ Box wx B [.int .i64 F.x, .int .i64 F.y]) ∧ (∃ B, s2 = .pointer (some ⟨B, 0, none⟩) ∧ w.heap.size + 1 + 1 < B ∧ Box wx B [.int .i64 G.x, .int .i64 G.y]) ∧ Ext W0 wx)
  case first =>
    refine wp_region_held_drew (S := fun w' => Ext W0 w') (by kernel_rfl) (by (try dsimp only); exact Ext.drew (Ext.refl W0)) (fun hHeld => ?_)
    have hE : Ext W0 W0.drew := Ext.drew (Ext.refl W0)
    obtain ⟨V0, hV0⟩ : ∃ V0, V0 = W0.drew := ⟨_, rfl⟩
    rw [← hV0] at hE hHeld ⊢
    clear hV0
    (refine Ord.k 0 10 (v := ?_) ?_ ?_; rotate_left; (intro w h; (try dsimp only at h); go_simp; (try with_reducible rfl)); (try simp only [Act.put, Ord.a, Ord.b, Ord.c])); (refine Ord.k 2 12 (v := ?_) ?_ ?_; rotate_left; (intro w h; (try dsimp only at h); go_simp; (try with_reducible rfl)); (try simp only [Act.put, Ord.a, Ord.b, Ord.c])); (refine Ord.k 6 16 (v := ?_) ?_ ?_; rotate_left; (intro w h; (try dsimp only at h); go_simp; (try with_reducible rfl)); (try simp only [Act.put, Ord.a, Ord.b, Ord.c])); (refine Ord.k 8 18 (v := ?_) ?_ ?_; rotate_left; (intro w h; (try dsimp only at h); go_simp; (try with_reducible rfl)); (try simp only [Act.put, Ord.a, Ord.b, Ord.c])); (refine Ord.k 1 11 (v := ?_) ?_ ?_; rotate_left; (intro w h; (try dsimp only at h); go_simp; (try with_reducible rfl)); (try simp only [Act.put, Ord.a, Ord.b, Ord.c])); (refine Ord.k 7 17 (v := ?_) ?_ ?_; rotate_left; (intro w h; (try dsimp only at h); go_simp; (try with_reducible rfl)); (try simp only [Act.put, Ord.a, Ord.b, Ord.c])); (refine Ord.k 9 19 (v := ?_) ?_ ?_; rotate_left; (intro w h; (try dsimp only at h); go_simp; (try with_reducible rfl)); (try simp only [Act.put, Ord.a, Ord.b, Ord.c])); (refine Ord.k 3 13 (v := ?_) ?_ ?_; rotate_left; (intro w h; (try dsimp only at h); go_simp; (try with_reducible rfl)); (try simp only [Act.put, Ord.a, Ord.b, Ord.c])); (refine Ord.k 10 20 (v := ?_) ?_ ?_; rotate_left; (intro w h; (try dsimp only at h); go_simp; (try with_reducible rfl)); (try simp only [Act.put, Ord.a, Ord.b, Ord.c])); (refine Ord.k 4 14 (v := ?_) ?_ ?_; rotate_left; (intro w h; (try dsimp only at h); go_simp; (try with_reducible rfl)); (try simp only [Act.put, Ord.a, Ord.b, Ord.c])); (refine Ord.k 11 21 (v := ?_) ?_ ?_; rotate_left; (intro w h; (try dsimp only at h); go_simp; (try with_reducible rfl)); (try simp only [Act.put, Ord.a, Ord.b, Ord.c]))
    refine wpAnyH_ready (rs := [5, 13, 14]) (by kernel_rfl) (by simp) ?_
    refine (AllReadyH.cons rfl (fun K hK => ?_) (AllReadyH.cons rfl (fun K hK => ?_) (AllReadyH.cons rfl (fun K hK => ?_) AllReadyH.nil)))
    · go_simp
      go_at_call 139
      refine (P1.out _).mono ?_
      rintro e V1 ⟨rfl, hy⟩
      go_wp2_with fail
      have zy := Ext.size hy
      have hE' := hE.trans hy
      refine hK.out _ _ hE' (fun hHeld => ?_)
      clear hK K
      (try simp only [Act.put, Ord.a, Ord.b, Ord.c])
      replace hE := hE'
      clear hE' hy
      refine wpAnyH_ready (rs := [12, 13, 14]) (by kernel_rfl) (by simp) ?_
      refine (AllReadyH.cons rfl (fun K hK => ?_) (AllReadyH.cons rfl (fun K hK => ?_) (AllReadyH.cons rfl (fun K hK => ?_) AllReadyH.nil)))
      · go_simp
        go_at_call 139
        refine (P2.out _).mono ?_
        rintro e V2 ⟨rfl, hy⟩
        go_wp2_with fail
        have zy := Ext.size hy
        have hE' := hE.trans hy
        refine hK.out _ _ hE' (fun hHeld => ?_)
        clear hK K
        (try simp only [Act.put, Ord.a, Ord.b, Ord.c])
        replace hE := hE'
        clear hE' hy
        refine wpAnyH_ready (rs := [13, 14]) (by kernel_rfl) (by simp) ?_
        refine (AllReadyH.cons rfl (fun K hK => ?_) (AllReadyH.cons rfl (fun K hK => ?_) AllReadyH.nil))
        · go_simp
          have hy : Ext V2 (V2.alloc (.cells #[.int .i64 0, .int .i64 0] 25)) := (Ext.refl V2).alloc _
          have hE' := hE.trans hy
          refine hK.out _ _ hE' (fun hHeld => ?_)
          clear hK K
          (try simp only [Act.put, Ord.a, Ord.b, Ord.c])
          have P13 : Box (V2.alloc (.cells #[.int .i64 0, .int .i64 0] 25)) V2.heap.size [.int .i64 0, .int .i64 0] := Box.new (vs := [.int .i64 0, .int .i64 0]) rfl
          have z13 := Ext.size hE
          have y13 : V2.heap.size < (V2.alloc (.cells #[.int .i64 0, .int .i64 0] 25)).heap.size := by simp
          replace hE := hE'
          clear hE' hy
          generalize V2.alloc (.cells #[.int .i64 0, .int .i64 0] 25) = V3 at *
          refine wpAnyH_ready (rs := [14]) (by kernel_rfl) (by simp) ?_
          refine (AllReadyH.cons rfl (fun K hK => ?_) AllReadyH.nil)
          go_simp
          have hy : Ext V3 (V3.alloc (.cells #[.int .i64 0, .int .i64 0] 25)) := (Ext.refl V3).alloc _
          have hE' := hE.trans hy
          refine hK.out _ _ hE' (fun hHeld => ?_)
          clear hK K
          (try simp only [Act.put, Ord.a, Ord.b, Ord.c])
          replace P13 := P13.ext hy
          have P14 : Box (V3.alloc (.cells #[.int .i64 0, .int .i64 0] 25)) V3.heap.size [.int .i64 0, .int .i64 0] := Box.new (vs := [.int .i64 0, .int .i64 0]) rfl
          have z14 := Ext.size hE
          have y14 : V3.heap.size < (V3.alloc (.cells #[.int .i64 0, .int .i64 0] 25)).heap.size := by simp
          replace hE := hE'
          clear hE' hy
          generalize V3.alloc (.cells #[.int .i64 0, .int .i64 0] 25) = V4 at *
          refine wpAnyH_ready (rs := [15]) (by kernel_rfl) (by simp) ?_
          refine (AllReadyH.cons rfl (fun K hK => ?_) AllReadyH.nil)
          obtain ⟨⟨r0, r1⟩, r2, r3⟩ := P13.two
          go_simp
          have hE' : Ext W0 ((V4.setCell ⟨V2.heap.size, 0, none⟩ (.int .i64 F.x)).setCell ⟨V2.heap.size, 1, none⟩ (.int .i64 F.y)) := ((hE.setNew (by first | omega | (simp; omega) | simp) _).setNew (by first | omega | (simp; omega) | simp) _)
          refine hK.out _ _ hE' (fun hHeld => ?_)
          clear hK K r0 r1 r2 r3
          (try simp only [Act.put, Ord.a, Ord.b, Ord.c])
          replace P13 := P13.set2 (u := .int .i64 F.x) (v := .int .i64 F.y)
          replace P14 := ((P14.away (p := ⟨V2.heap.size, 0, none⟩) (by simp; omega) (.int .i64 F.x)).away (p := ⟨V2.heap.size, 1, none⟩) (by simp; omega) (.int .i64 F.y))
          replace hE := hE'
          clear hE'
          generalize ((V4.setCell ⟨V2.heap.size, 0, none⟩ (.int .i64 F.x)).setCell ⟨V2.heap.size, 1, none⟩ (.int .i64 F.y)) = V5 at *
          refine wpAnyH_ready (rs := [16]) (by kernel_rfl) (by simp) ?_
          refine (AllReadyH.cons rfl (fun K hK => ?_) AllReadyH.nil)
          obtain ⟨⟨r0, r1⟩, r2, r3⟩ := P14.two
          go_simp
          have hE' : Ext W0 ((V5.setCell ⟨V3.heap.size, 0, none⟩ (.int .i64 G.x)).setCell ⟨V3.heap.size, 1, none⟩ (.int .i64 G.y)) := ((hE.setNew (by first | omega | (simp; omega) | simp) _).setNew (by first | omega | (simp; omega) | simp) _)
          refine hK.out _ _ hE' (fun hHeld => ?_)
          clear hK K r0 r1 r2 r3
          (try simp only [Act.put, Ord.a, Ord.b, Ord.c])
          replace P14 := P14.set2 (u := .int .i64 G.x) (v := .int .i64 G.y)
          replace P13 := ((P13.away (p := ⟨V3.heap.size, 0, none⟩) (by simp; omega) (.int .i64 G.x)).away (p := ⟨V3.heap.size, 1, none⟩) (by simp; omega) (.int .i64 G.y))
          replace hE := hE'
          clear hE'
          generalize ((V5.setCell ⟨V3.heap.size, 0, none⟩ (.int .i64 G.x)).setCell ⟨V3.heap.size, 1, none⟩ (.int .i64 G.y)) = V6 at *
          refine wpAnyH_done (by kernel_rfl) ?_ _
          go_wp2_with fail; go_meet; exact ⟨⟨_, rfl, by omega, P13⟩, ⟨_, rfl, by omega, P14⟩, hE⟩
        · go_simp
          have hy : Ext V2 (V2.alloc (.cells #[.int .i64 0, .int .i64 0] 25)) := (Ext.refl V2).alloc _
          have hE' := hE.trans hy
          refine hK.out _ _ hE' (fun hHeld => ?_)
          clear hK K
          (try simp only [Act.put, Ord.a, Ord.b, Ord.c])
          have P14 : Box (V2.alloc (.cells #[.int .i64 0, .int .i64 0] 25)) V2.heap.size [.int .i64 0, .int .i64 0] := Box.new (vs := [.int .i64 0, .int .i64 0]) rfl
          have z14 := Ext.size hE
          have y14 : V2.heap.size < (V2.alloc (.cells #[.int .i64 0, .int .i64 0] 25)).heap.size := by simp
          replace hE := hE'
          clear hE' hy
          generalize V2.alloc (.cells #[.int .i64 0, .int .i64 0] 25) = V3 at *
          refine wpAnyH_ready (rs := [13]) (by kernel_rfl) (by simp) ?_
          refine (AllReadyH.cons rfl (fun K hK => ?_) AllReadyH.nil)
          go_simp
          have hy : Ext V3 (V3.alloc (.cells #[.int .i64 0, .int .i64 0] 25)) := (Ext.refl V3).alloc _
          have hE' := hE.trans hy
          refine hK.out _ _ hE' (fun hHeld => ?_)
          clear hK K
          (try simp only [Act.put, Ord.a, Ord.b, Ord.c])
          replace P14 := P14.ext hy
          have P13 : Box (V3.alloc (.cells #[.int .i64 0, .int .i64 0] 25)) V3.heap.size [.int .i64 0, .int .i64 0] := Box.new (vs := [.int .i64 0, .int .i64 0]) rfl
          have z13 := Ext.size hE
          have y13 : V3.heap.size < (V3.alloc (.cells #[.int .i64 0, .int .i64 0] 25)).heap.size := by simp
          replace hE := hE'
          clear hE' hy
          generalize V3.alloc (.cells #[.int .i64 0, .int .i64 0] 25) = V4 at *
          refine wpAnyH_ready (rs := [15]) (by kernel_rfl) (by simp) ?_
          refine (AllReadyH.cons rfl (fun K hK => ?_) AllReadyH.nil)
          obtain ⟨⟨r0, r1⟩, r2, r3⟩ := P13.two
          go_simp
          have hE' : Ext W0 ((V4.setCell ⟨V3.heap.size, 0, none⟩ (.int .i64 F.x)).setCell ⟨V3.heap.size, 1, none⟩ (.int .i64 F.y)) := ((hE.setNew (by first | omega | (simp; omega) | simp) _).setNew (by first | omega | (simp; omega) | simp) _)
          refine hK.out _ _ hE' (fun hHeld => ?_)
          clear hK K r0 r1 r2 r3
          (try simp only [Act.put, Ord.a, Ord.b, Ord.c])
          replace P13 := P13.set2 (u := .int .i64 F.x) (v := .int .i64 F.y)
          replace P14 := ((P14.away (p := ⟨V3.heap.size, 0, none⟩) (by simp; omega) (.int .i64 F.x)).away (p := ⟨V3.heap.size, 1, none⟩) (by simp; omega) (.int .i64 F.y))
          replace hE := hE'
          clear hE'
          generalize ((V4.setCell ⟨V3.heap.size, 0, none⟩ (.int .i64 F.x)).setCell ⟨V3.heap.size, 1, none⟩ (.int .i64 F.y)) = V5 at *
          refine wpAnyH_ready (rs := [16]) (by kernel_rfl) (by simp) ?_
          refine (AllReadyH.cons rfl (fun K hK => ?_) AllReadyH.nil)
          obtain ⟨⟨r0, r1⟩, r2, r3⟩ := P14.two
          go_simp
          have hE' : Ext W0 ((V5.setCell ⟨V2.heap.size, 0, none⟩ (.int .i64 G.x)).setCell ⟨V2.heap.size, 1, none⟩ (.int .i64 G.y)) := ((hE.setNew (by first | omega | (simp; omega) | simp) _).setNew (by first | omega | (simp; omega) | simp) _)
          refine hK.out _ _ hE' (fun hHeld => ?_)
          clear hK K r0 r1 r2 r3
          (try simp only [Act.put, Ord.a, Ord.b, Ord.c])
          replace P14 := P14.set2 (u := .int .i64 G.x) (v := .int .i64 G.y)
          replace P13 := ((P13.away (p := ⟨V2.heap.size, 0, none⟩) (by simp; omega) (.int .i64 G.x)).away (p := ⟨V2.heap.size, 1, none⟩) (by simp; omega) (.int .i64 G.y))
          replace hE := hE'
          clear hE'
          generalize ((V5.setCell ⟨V2.heap.size, 0, none⟩ (.int .i64 G.x)).setCell ⟨V2.heap.size, 1, none⟩ (.int .i64 G.y)) = V6 at *
          refine wpAnyH_done (by kernel_rfl) ?_ _
          go_wp2_with fail; go_meet; exact ⟨⟨_, rfl, by omega, P13⟩, ⟨_, rfl, by omega, P14⟩, hE⟩
      · go_simp
        have hy : Ext V1 (V1.alloc (.cells #[.int .i64 0, .int .i64 0] 25)) := (Ext.refl V1).alloc _
        have hE' := hE.trans hy
        refine hK.out _ _ hE' (fun hHeld => ?_)
        clear hK K
        (try simp only [Act.put, Ord.a, Ord.b, Ord.c])
        have P13 : Box (V1.alloc (.cells #[.int .i64 0, .int .i64 0] 25)) V1.heap.size [.int .i64 0, .int .i64 0] := Box.new (vs := [.int .i64 0, .int .i64 0]) rfl
        have z13 := Ext.size hE
        have y13 : V1.heap.size < (V1.alloc (.cells #[.int .i64 0, .int .i64 0] 25)).heap.size := by simp
        replace hE := hE'
        clear hE' hy
        generalize V1.alloc (.cells #[.int .i64 0, .int .i64 0] 25) = V2 at *
        refine wpAnyH_ready (rs := [12, 14]) (by kernel_rfl) (by simp) ?_
        refine (AllReadyH.cons rfl (fun K hK => ?_) (AllReadyH.cons rfl (fun K hK => ?_) AllReadyH.nil))
        · go_simp
          go_at_call 139
          refine (P2.out _).mono ?_
          rintro e V3 ⟨rfl, hy⟩
          go_wp2_with fail
          have zy := Ext.size hy
          have hE' := hE.trans hy
          refine hK.out _ _ hE' (fun hHeld => ?_)
          clear hK K
          (try simp only [Act.put, Ord.a, Ord.b, Ord.c])
          replace P13 := P13.ext hy
          replace hE := hE'
          clear hE' hy
          refine wpAnyH_ready (rs := [14]) (by kernel_rfl) (by simp) ?_
          refine (AllReadyH.cons rfl (fun K hK => ?_) AllReadyH.nil)
          go_simp
          have hy : Ext V3 (V3.alloc (.cells #[.int .i64 0, .int .i64 0] 25)) := (Ext.refl V3).alloc _
          have hE' := hE.trans hy
          refine hK.out _ _ hE' (fun hHeld => ?_)
          clear hK K
          (try simp only [Act.put, Ord.a, Ord.b, Ord.c])
          replace P13 := P13.ext hy
          have P14 : Box (V3.alloc (.cells #[.int .i64 0, .int .i64 0] 25)) V3.heap.size [.int .i64 0, .int .i64 0] := Box.new (vs := [.int .i64 0, .int .i64 0]) rfl
          have z14 := Ext.size hE
          have y14 : V3.heap.size < (V3.alloc (.cells #[.int .i64 0, .int .i64 0] 25)).heap.size := by simp
          replace hE := hE'
          clear hE' hy
          generalize V3.alloc (.cells #[.int .i64 0, .int .i64 0] 25) = V4 at *
          refine wpAnyH_ready (rs := [15]) (by kernel_rfl) (by simp) ?_
          refine (AllReadyH.cons rfl (fun K hK => ?_) AllReadyH.nil)
          obtain ⟨⟨r0, r1⟩, r2, r3⟩ := P13.two
          go_simp
          have hE' : Ext W0 ((V4.setCell ⟨V1.heap.size, 0, none⟩ (.int .i64 F.x)).setCell ⟨V1.heap.size, 1, none⟩ (.int .i64 F.y)) := ((hE.setNew (by first | omega | (simp; omega) | simp) _).setNew (by first | omega | (simp; omega) | simp) _)
          refine hK.out _ _ hE' (fun hHeld => ?_)
          clear hK K r0 r1 r2 r3
          (try simp only [Act.put, Ord.a, Ord.b, Ord.c])
          replace P13 := P13.set2 (u := .int .i64 F.x) (v := .int .i64 F.y)
          replace P14 := ((P14.away (p := ⟨V1.heap.size, 0, none⟩) (by simp; omega) (.int .i64 F.x)).away (p := ⟨V1.heap.size, 1, none⟩) (by simp; omega) (.int .i64 F.y))
          replace hE := hE'
          clear hE'
          generalize ((V4.setCell ⟨V1.heap.size, 0, none⟩ (.int .i64 F.x)).setCell ⟨V1.heap.size, 1, none⟩ (.int .i64 F.y)) = V5 at *
          refine wpAnyH_ready (rs := [16]) (by kernel_rfl) (by simp) ?_
          refine (AllReadyH.cons rfl (fun K hK => ?_) AllReadyH.nil)
          obtain ⟨⟨r0, r1⟩, r2, r3⟩ := P14.two
          go_simp
          have hE' : Ext W0 ((V5.setCell ⟨V3.heap.size, 0, none⟩ (.int .i64 G.x)).setCell ⟨V3.heap.size, 1, none⟩ (.int .i64 G.y)) := ((hE.setNew (by first | omega | (simp; omega) | simp) _).setNew (by first | omega | (simp; omega) | simp) _)
          refine hK.out _ _ hE' (fun hHeld => ?_)
          clear hK K r0 r1 r2 r3
          (try simp only [Act.put, Ord.a, Ord.b, Ord.c])
          replace P14 := P14.set2 (u := .int .i64 G.x) (v := .int .i64 G.y)
          replace P13 := ((P13.away (p := ⟨V3.heap.size, 0, none⟩) (by simp; omega) (.int .i64 G.x)).away (p := ⟨V3.heap.size, 1, none⟩) (by simp; omega) (.int .i64 G.y))
          replace hE := hE'
          clear hE'
          generalize ((V5.setCell ⟨V3.heap.size, 0, none⟩ (.int .i64 G.x)).setCell ⟨V3.heap.size, 1, none⟩ (.int .i64 G.y)) = V6 at *
          refine wpAnyH_done (by kernel_rfl) ?_ _
          go_wp2_with fail; go_meet; exact ⟨⟨_, rfl, by omega, P13⟩, ⟨_, rfl, by omega, P14⟩, hE⟩
        · go_simp
          have hy : Ext V2 (V2.alloc (.cells #[.int .i64 0, .int .i64 0] 25)) := (Ext.refl V2).alloc _
          have hE' := hE.trans hy
          refine hK.out _ _ hE' (fun hHeld => ?_)
          clear hK K
          (try simp only [Act.put, Ord.a, Ord.b, Ord.c])
          replace P13 := P13.ext hy
          have P14 : Box (V2.alloc (.cells #[.int .i64 0, .int .i64 0] 25)) V2.heap.size [.int .i64 0, .int .i64 0] := Box.new (vs := [.int .i64 0, .int .i64 0]) rfl
          have z14 := Ext.size hE
          have y14 : V2.heap.size < (V2.alloc (.cells #[.int .i64 0, .int .i64 0] 25)).heap.size := by simp
          replace hE := hE'
          clear hE' hy
          generalize V2.alloc (.cells #[.int .i64 0, .int .i64 0] 25) = V3 at *
          refine wpAnyH_ready (rs := [12]) (by kernel_rfl) (by simp) ?_
          refine (AllReadyH.cons rfl (fun K hK => ?_) AllReadyH.nil)
          go_simp
          go_at_call 139
          refine (P2.out _).mono ?_
          rintro e V4 ⟨rfl, hy⟩
          go_wp2_with fail
          have zy := Ext.size hy
          have hE' := hE.trans hy
          refine hK.out _ _ hE' (fun hHeld => ?_)
          clear hK K
          (try simp only [Act.put, Ord.a, Ord.b, Ord.c])
          replace P13 := P13.ext hy
          replace P14 := P14.ext hy
          replace hE := hE'
          clear hE' hy
          refine wpAnyH_ready (rs := [15]) (by kernel_rfl) (by simp) ?_
          refine (AllReadyH.cons rfl (fun K hK => ?_) AllReadyH.nil)
          obtain ⟨⟨r0, r1⟩, r2, r3⟩ := P13.two
          go_simp
          have hE' : Ext W0 ((V4.setCell ⟨V1.heap.size, 0, none⟩ (.int .i64 F.x)).setCell ⟨V1.heap.size, 1, none⟩ (.int .i64 F.y)) := ((hE.setNew (by first | omega | (simp; omega) | simp) _).setNew (by first | omega | (simp; omega) | simp) _)
          refine hK.out _ _ hE' (fun hHeld => ?_)
          clear hK K r0 r1 r2 r3
          (try simp only [Act.put, Ord.a, Ord.b, Ord.c])
          replace P13 := P13.set2 (u := .int .i64 F.x) (v := .int .i64 F.y)
          replace P14 := ((P14.away (p := ⟨V1.heap.size, 0, none⟩) (by simp; omega) (.int .i64 F.x)).away (p := ⟨V1.heap.size, 1, none⟩) (by simp; omega) (.int .i64 F.y))
          replace hE := hE'
          clear hE'
          generalize ((V4.setCell ⟨V1.heap.size, 0, none⟩ (.int .i64 F.x)).setCell ⟨V1.heap.size, 1, none⟩ (.int .i64 F.y)) = V5 at *
          refine wpAnyH_ready (rs := [16]) (by kernel_rfl) (by simp) ?_
          refine (AllReadyH.cons rfl (fun K hK => ?_) AllReadyH.nil)
          obtain ⟨⟨r0, r1⟩, r2, r3⟩ := P14.two
          go_simp
          have hE' : Ext W0 ((V5.setCell ⟨V2.heap.size, 0, none⟩ (.int .i64 G.x)).setCell ⟨V2.heap.size, 1, none⟩ (.int .i64 G.y)) := ((hE.setNew (by first | omega | (simp; omega) | simp) _).setNew (by first | omega | (simp; omega) | simp) _)
          refine hK.out _ _ hE' (fun hHeld => ?_)
          clear hK K r0 r1 r2 r3
          (try simp only [Act.put, Ord.a, Ord.b, Ord.c])
          replace P14 := P14.set2 (u := .int .i64 G.x) (v := .int .i64 G.y)
          replace P13 := ((P13.away (p := ⟨V2.heap.size, 0, none⟩) (by simp; omega) (.int .i64 G.x)).away (p := ⟨V2.heap.size, 1, none⟩) (by simp; omega) (.int .i64 G.y))
          replace hE := hE'
          clear hE'
          generalize ((V5.setCell ⟨V2.heap.size, 0, none⟩ (.int .i64 G.x)).setCell ⟨V2.heap.size, 1, none⟩ (.int .i64 G.y)) = V6 at *
          refine wpAnyH_done (by kernel_rfl) ?_ _
          go_wp2_with fail; go_meet; exact ⟨⟨_, rfl, by omega, P13⟩, ⟨_, rfl, by omega, P14⟩, hE⟩
      · go_simp
        have hy : Ext V1 (V1.alloc (.cells #[.int .i64 0, .int .i64 0] 25)) := (Ext.refl V1).alloc _
        have hE' := hE.trans hy
        refine hK.out _ _ hE' (fun hHeld => ?_)
        clear hK K
        (try simp only [Act.put, Ord.a, Ord.b, Ord.c])
        have P14 : Box (V1.alloc (.cells #[.int .i64 0, .int .i64 0] 25)) V1.heap.size [.int .i64 0, .int .i64 0] := Box.new (vs := [.int .i64 0, .int .i64 0]) rfl
        have z14 := Ext.size hE
        have y14 : V1.heap.size < (V1.alloc (.cells #[.int .i64 0, .int .i64 0] 25)).heap.size := by simp
        replace hE := hE'
        clear hE' hy
        generalize V1.alloc (.cells #[.int .i64 0, .int .i64 0] 25) = V2 at *
        refine wpAnyH_ready (rs := [12, 13]) (by kernel_rfl) (by simp) ?_
        refine (AllReadyH.cons rfl (fun K hK => ?_) (AllReadyH.cons rfl (fun K hK => ?_) AllReadyH.nil))
        · go_simp
          go_at_call 139
          refine (P2.out _).mono ?_
          rintro e V3 ⟨rfl, hy⟩
          go_wp2_with fail
          have zy := Ext.size hy
          have hE' := hE.trans hy
          refine hK.out _ _ hE' (fun hHeld => ?_)
          clear hK K
          (try simp only [Act.put, Ord.a, Ord.b, Ord.c])
          replace P14 := P14.ext hy
          replace hE := hE'
          clear hE' hy
          refine wpAnyH_ready (rs := [13]) (by kernel_rfl) (by simp) ?_
          refine (AllReadyH.cons rfl (fun K hK => ?_) AllReadyH.nil)
          go_simp
          have hy : Ext V3 (V3.alloc (.cells #[.int .i64 0, .int .i64 0] 25)) := (Ext.refl V3).alloc _
          have hE' := hE.trans hy
          refine hK.out _ _ hE' (fun hHeld => ?_)
          clear hK K
          (try simp only [Act.put, Ord.a, Ord.b, Ord.c])
          replace P14 := P14.ext hy
          have P13 : Box (V3.alloc (.cells #[.int .i64 0, .int .i64 0] 25)) V3.heap.size [.int .i64 0, .int .i64 0] := Box.new (vs := [.int .i64 0, .int .i64 0]) rfl
          have z13 := Ext.size hE
          have y13 : V3.heap.size < (V3.alloc (.cells #[.int .i64 0, .int .i64 0] 25)).heap.size := by simp
          replace hE := hE'
          clear hE' hy
          generalize V3.alloc (.cells #[.int .i64 0, .int .i64 0] 25) = V4 at *
          refine wpAnyH_ready (rs := [15]) (by kernel_rfl) (by simp) ?_
          refine (AllReadyH.cons rfl (fun K hK => ?_) AllReadyH.nil)
          obtain ⟨⟨r0, r1⟩, r2, r3⟩ := P13.two
          go_simp
          have hE' : Ext W0 ((V4.setCell ⟨V3.heap.size, 0, none⟩ (.int .i64 F.x)).setCell ⟨V3.heap.size, 1, none⟩ (.int .i64 F.y)) := ((hE.setNew (by first | omega | (simp; omega) | simp) _).setNew (by first | omega | (simp; omega) | simp) _)
          refine hK.out _ _ hE' (fun hHeld => ?_)
          clear hK K r0 r1 r2 r3
          (try simp only [Act.put, Ord.a, Ord.b, Ord.c])
          replace P13 := P13.set2 (u := .int .i64 F.x) (v := .int .i64 F.y)
          replace P14 := ((P14.away (p := ⟨V3.heap.size, 0, none⟩) (by simp; omega) (.int .i64 F.x)).away (p := ⟨V3.heap.size, 1, none⟩) (by simp; omega) (.int .i64 F.y))
          replace hE := hE'
          clear hE'
          generalize ((V4.setCell ⟨V3.heap.size, 0, none⟩ (.int .i64 F.x)).setCell ⟨V3.heap.size, 1, none⟩ (.int .i64 F.y)) = V5 at *
          refine wpAnyH_ready (rs := [16]) (by kernel_rfl) (by simp) ?_
          refine (AllReadyH.cons rfl (fun K hK => ?_) AllReadyH.nil)
          obtain ⟨⟨r0, r1⟩, r2, r3⟩ := P14.two
          go_simp
          have hE' : Ext W0 ((V5.setCell ⟨V1.heap.size, 0, none⟩ (.int .i64 G.x)).setCell ⟨V1.heap.size, 1, none⟩ (.int .i64 G.y)) := ((hE.setNew (by first | omega | (simp; omega) | simp) _).setNew (by first | omega | (simp; omega) | simp) _)
          refine hK.out _ _ hE' (fun hHeld => ?_)
          clear hK K r0 r1 r2 r3
          (try simp only [Act.put, Ord.a, Ord.b, Ord.c])
          replace P14 := P14.set2 (u := .int .i64 G.x) (v := .int .i64 G.y)
          replace P13 := ((P13.away (p := ⟨V1.heap.size, 0, none⟩) (by simp; omega) (.int .i64 G.x)).away (p := ⟨V1.heap.size, 1, none⟩) (by simp; omega) (.int .i64 G.y))
          replace hE := hE'
          clear hE'
          generalize ((V5.setCell ⟨V1.heap.size, 0, none⟩ (.int .i64 G.x)).setCell ⟨V1.heap.size, 1, none⟩ (.int .i64 G.y)) = V6 at *
          refine wpAnyH_done (by kernel_rfl) ?_ _
          go_wp2_with fail; go_meet; exact ⟨⟨_, rfl, by omega, P13⟩, ⟨_, rfl, by omega, P14⟩, hE⟩
        · go_simp
          have hy : Ext V2 (V2.alloc (.cells #[.int .i64 0, .int .i64 0] 25)) := (Ext.refl V2).alloc _
          have hE' := hE.trans hy
          refine hK.out _ _ hE' (fun hHeld => ?_)
          clear hK K
          (try simp only [Act.put, Ord.a, Ord.b, Ord.c])
          replace P14 := P14.ext hy
          have P13 : Box (V2.alloc (.cells #[.int .i64 0, .int .i64 0] 25)) V2.heap.size [.int .i64 0, .int .i64 0] := Box.new (vs := [.int .i64 0, .int .i64 0]) rfl
          have z13 := Ext.size hE
          have y13 : V2.heap.size < (V2.alloc (.cells #[.int .i64 0, .int .i64 0] 25)).heap.size := by simp
          replace hE := hE'
          clear hE' hy
          generalize V2.alloc (.cells #[.int .i64 0, .int .i64 0] 25) = V3 at *
          refine wpAnyH_ready (rs := [12]) (by kernel_rfl) (by simp) ?_
          refine (AllReadyH.cons rfl (fun K hK => ?_) AllReadyH.nil)
          go_simp
          go_at_call 139
          refine (P2.out _).mono ?_
          rintro e V4 ⟨rfl, hy⟩
          go_wp2_with fail
          have zy := Ext.size hy
          have hE' := hE.trans hy
          refine hK.out _ _ hE' (fun hHeld => ?_)
          clear hK K
          (try simp only [Act.put, Ord.a, Ord.b, Ord.c])
          replace P14 := P14.ext hy
          replace P13 := P13.ext hy
          replace hE := hE'
          clear hE' hy
          refine wpAnyH_ready (rs := [15]) (by kernel_rfl) (by simp) ?_
          refine (AllReadyH.cons rfl (fun K hK => ?_) AllReadyH.nil)
          obtain ⟨⟨r0, r1⟩, r2, r3⟩ := P13.two
          go_simp
          have hE' : Ext W0 ((V4.setCell ⟨V2.heap.size, 0, none⟩ (.int .i64 F.x)).setCell ⟨V2.heap.size, 1, none⟩ (.int .i64 F.y)) := ((hE.setNew (by first | omega | (simp; omega) | simp) _).setNew (by first | omega | (simp; omega) | simp) _)
          refine hK.out _ _ hE' (fun hHeld => ?_)
          clear hK K r0 r1 r2 r3
          (try simp only [Act.put, Ord.a, Ord.b, Ord.c])
          replace P13 := P13.set2 (u := .int .i64 F.x) (v := .int .i64 F.y)
          replace P14 := ((P14.away (p := ⟨V2.heap.size, 0, none⟩) (by simp; omega) (.int .i64 F.x)).away (p := ⟨V2.heap.size, 1, none⟩) (by simp; omega) (.int .i64 F.y))
          replace hE := hE'
          clear hE'
          generalize ((V4.setCell ⟨V2.heap.size, 0, none⟩ (.int .i64 F.x)).setCell ⟨V2.heap.size, 1, none⟩ (.int .i64 F.y)) = V5 at *
          refine wpAnyH_ready (rs := [16]) (by kernel_rfl) (by simp) ?_
          refine (AllReadyH.cons rfl (fun K hK => ?_) AllReadyH.nil)
          obtain ⟨⟨r0, r1⟩, r2, r3⟩ := P14.two
          go_simp
          have hE' : Ext W0 ((V5.setCell ⟨V1.heap.size, 0, none⟩ (.int .i64 G.x)).setCell ⟨V1.heap.size, 1, none⟩ (.int .i64 G.y)) := ((hE.setNew (by first | omega | (simp; omega) | simp) _).setNew (by first | omega | (simp; omega) | simp) _)
          refine hK.out _ _ hE' (fun hHeld => ?_)
          clear hK K r0 r1 r2 r3
          (try simp only [Act.put, Ord.a, Ord.b, Ord.c])
          replace P14 := P14.set2 (u := .int .i64 G.x) (v := .int .i64 G.y)
          replace P13 := ((P13.away (p := ⟨V1.heap.size, 0, none⟩) (by simp; omega) (.int .i64 G.x)).away (p := ⟨V1.heap.size, 1, none⟩) (by simp; omega) (.int .i64 G.y))
          replace hE := hE'
          clear hE'
          generalize ((V5.setCell ⟨V1.heap.size, 0, none⟩ (.int .i64 G.x)).setCell ⟨V1.heap.size, 1, none⟩ (.int .i64 G.y)) = V6 at *
          refine wpAnyH_done (by kernel_rfl) ?_ _
          go_wp2_with fail; go_meet; exact ⟨⟨_, rfl, by omega, P13⟩, ⟨_, rfl, by omega, P14⟩, hE⟩
    · go_simp
      have hy : Ext V0 (V0.alloc (.cells #[.int .i64 0, .int .i64 0] 25)) := (Ext.refl V0).alloc _
      have hE' := hE.trans hy
      refine hK.out _ _ hE' (fun hHeld => ?_)
      clear hK K
      (try simp only [Act.put, Ord.a, Ord.b, Ord.c])
      have P13 : Box (V0.alloc (.cells #[.int .i64 0, .int .i64 0] 25)) V0.heap.size [.int .i64 0, .int .i64 0] := Box.new (vs := [.int .i64 0, .int .i64 0]) rfl
      have z13 := Ext.size hE
      have y13 : V0.heap.size < (V0.alloc (.cells #[.int .i64 0, .int .i64 0] 25)).heap.size := by simp
      replace hE := hE'
      clear hE' hy
      generalize V0.alloc (.cells #[.int .i64 0, .int .i64 0] 25) = V1 at *
      refine wpAnyH_ready (rs := [5, 14]) (by kernel_rfl) (by simp) ?_
      refine (AllReadyH.cons rfl (fun K hK => ?_) (AllReadyH.cons rfl (fun K hK => ?_) AllReadyH.nil))
      · go_simp
        go_at_call 139
        refine (P1.out _).mono ?_
        rintro e V2 ⟨rfl, hy⟩
        go_wp2_with fail
        have zy := Ext.size hy
        have hE' := hE.trans hy
        refine hK.out _ _ hE' (fun hHeld => ?_)
        clear hK K
        (try simp only [Act.put, Ord.a, Ord.b, Ord.c])
        replace P13 := P13.ext hy
        replace hE := hE'
        clear hE' hy
        refine wpAnyH_ready (rs := [12, 14]) (by kernel_rfl) (by simp) ?_
        refine (AllReadyH.cons rfl (fun K hK => ?_) (AllReadyH.cons rfl (fun K hK => ?_) AllReadyH.nil))
        · go_simp
          go_at_call 139
          refine (P2.out _).mono ?_
          rintro e V3 ⟨rfl, hy⟩
          go_wp2_with fail
          have zy := Ext.size hy
          have hE' := hE.trans hy
          refine hK.out _ _ hE' (fun hHeld => ?_)
          clear hK K
          (try simp only [Act.put, Ord.a, Ord.b, Ord.c])
          replace P13 := P13.ext hy
          replace hE := hE'
          clear hE' hy
          refine wpAnyH_ready (rs := [14]) (by kernel_rfl) (by simp) ?_
          refine (AllReadyH.cons rfl (fun K hK => ?_) AllReadyH.nil)
          go_simp
          have hy : Ext V3 (V3.alloc (.cells #[.int .i64 0, .int .i64 0] 25)) := (Ext.refl V3).alloc _
          have hE' := hE.trans hy
          refine hK.out _ _ hE' (fun hHeld => ?_)
          clear hK K
          (try simp only [Act.put, Ord.a, Ord.b, Ord.c])
          replace P13 := P13.ext hy
          have P14 : Box (V3.alloc (.cells #[.int .i64 0, .int .i64 0] 25)) V3.heap.size [.int .i64 0, .int .i64 0] := Box.new (vs := [.int .i64 0, .int .i64 0]) rfl
          have z14 := Ext.size hE
          have y14 : V3.heap.size < (V3.alloc (.cells #[.int .i64 0, .int .i64 0] 25)).heap.size := by simp
          replace hE := hE'
          clear hE' hy
          generalize V3.alloc (.cells #[.int .i64 0, .int .i64 0] 25) = V4 at *
          refine wpAnyH_ready (rs := [15]) (by kernel_rfl) (by simp) ?_
          refine (AllReadyH.cons rfl (fun K hK => ?_) AllReadyH.nil)
          obtain ⟨⟨r0, r1⟩, r2, r3⟩ := P13.two
          go_simp
          have hE' : Ext W0 ((V4.setCell ⟨V0.heap.size, 0, none⟩ (.int .i64 F.x)).setCell ⟨V0.heap.size, 1, none⟩ (.int .i64 F.y)) := ((hE.setNew (by first | omega | (simp; omega) | simp) _).setNew (by first | omega | (simp; omega) | simp) _)
          refine hK.out _ _ hE' (fun hHeld => ?_)
          clear hK K r0 r1 r2 r3
          (try simp only [Act.put, Ord.a, Ord.b, Ord.c])
          replace P13 := P13.set2 (u := .int .i64 F.x) (v := .int .i64 F.y)
          replace P14 := ((P14.away (p := ⟨V0.heap.size, 0, none⟩) (by simp; omega) (.int .i64 F.x)).away (p := ⟨V0.heap.size, 1, none⟩) (by simp; omega) (.int .i64 F.y))
          replace hE := hE'
          clear hE'
          generalize ((V4.setCell ⟨V0.heap.size, 0, none⟩ (.int .i64 F.x)).setCell ⟨V0.heap.size, 1, none⟩ (.int .i64 F.y)) = V5 at *
          refine wpAnyH_ready (rs := [16]) (by kernel_rfl) (by simp) ?_
          refine (AllReadyH.cons rfl (fun K hK => ?_) AllReadyH.nil)
          obtain ⟨⟨r0, r1⟩, r2, r3⟩ := P14.two
          go_simp
          have hE' : Ext W0 ((V5.setCell ⟨V3.heap.size, 0, none⟩ (.int .i64 G.x)).setCell ⟨V3.heap.size, 1, none⟩ (.int .i64 G.y)) := ((hE.setNew (by first | omega | (simp; omega) | simp) _).setNew (by first | omega | (simp; omega) | simp) _)
          refine hK.out _ _ hE' (fun hHeld => ?_)
          clear hK K r0 r1 r2 r3
          (try simp only [Act.put, Ord.a, Ord.b, Ord.c])
          replace P14 := P14.set2 (u := .int .i64 G.x) (v := .int .i64 G.y)
          replace P13 := ((P13.away (p := ⟨V3.heap.size, 0, none⟩) (by simp; omega) (.int .i64 G.x)).away (p := ⟨V3.heap.size, 1, none⟩) (by simp; omega) (.int .i64 G.y))
          replace hE := hE'
          clear hE'
          generalize ((V5.setCell ⟨V3.heap.size, 0, none⟩ (.int .i64 G.x)).setCell ⟨V3.heap.size, 1, none⟩ (.int .i64 G.y)) = V6 at *
          refine wpAnyH_done (by kernel_rfl) ?_ _
          go_wp2_with fail; go_meet; exact ⟨⟨_, rfl, by omega, P13⟩, ⟨_, rfl, by omega, P14⟩, hE⟩
        · go_simp
          have hy : Ext V2 (V2.alloc (.cells #[.int .i64 0, .int .i64 0] 25)) := (Ext.refl V2).alloc _
          have hE' := hE.trans hy
          refine hK.out _ _ hE' (fun hHeld => ?_)
          clear hK K
          (try simp only [Act.put, Ord.a, Ord.b, Ord.c])
          replace P13 := P13.ext hy
          have P14 : Box (V2.alloc (.cells #[.int .i64 0, .int .i64 0] 25)) V2.heap.size [.int .i64 0, .int .i64 0] := Box.new (vs := [.int .i64 0, .int .i64 0]) rfl
          have z14 := Ext.size hE
          have y14 : V2.heap.size < (V2.alloc (.cells #[.int .i64 0, .int .i64 0] 25)).heap.size := by simp
          replace hE := hE'
          clear hE' hy
          generalize V2.alloc (.cells #[.int .i64 0, .int .i64 0] 25) = V3 at *
          refine wpAnyH_ready (rs := [12]) (by kernel_rfl) (by simp) ?_
          refine (AllReadyH.cons rfl (fun K hK => ?_) AllReadyH.nil)
          go_simp
          go_at_call 139
          refine (P2.out _).mono ?_
          rintro e V4 ⟨rfl, hy⟩
          go_wp2_with fail
          have zy := Ext.size hy
          have hE' := hE.trans hy
          refine hK.out _ _ hE' (fun hHeld => ?_)
          clear hK K
          (try simp only [Act.put, Ord.a, Ord.b, Ord.c])
          replace P13 := P13.ext hy
          replace P14 := P14.ext hy
          replace hE := hE'
          clear hE' hy
          refine wpAnyH_ready (rs := [15]) (by kernel_rfl) (by simp) ?_
          refine (AllReadyH.cons rfl (fun K hK => ?_) AllReadyH.nil)
          obtain ⟨⟨r0, r1⟩, r2, r3⟩ := P13.two
          go_simp
          have hE' : Ext W0 ((V4.setCell ⟨V0.heap.size, 0, none⟩ (.int .i64 F.x)).setCell ⟨V0.heap.size, 1, none⟩ (.int .i64 F.y)) := ((hE.setNew (by first | omega | (simp; omega) | simp) _).setNew (by first | omega | (simp; omega) | simp) _)
          refine hK.out _ _ hE' (fun hHeld => ?_)
          clear hK K r0 r1 r2 r3
          (try simp only [Act.put, Ord.a, Ord.b, Ord.c])
          replace P13 := P13.set2 (u := .int .i64 F.x) (v := .int .i64 F.y)
          replace P14 := ((P14.away (p := ⟨V0.heap.size, 0, none⟩) (by simp; omega) (.int .i64 F.x)).away (p := ⟨V0.heap.size, 1, none⟩) (by simp; omega) (.int .i64 F.y))
          replace hE := hE'
          clear hE'
          generalize ((V4.setCell ⟨V0.heap.size, 0, none⟩ (.int .i64 F.x)).setCell ⟨V0.heap.size, 1, none⟩ (.int .i64 F.y)) = V5 at *
          refine wpAnyH_ready (rs := [16]) (by kernel_rfl) (by simp) ?_
          refine (AllReadyH.cons rfl (fun K hK => ?_) AllReadyH.nil)
          obtain ⟨⟨r0, r1⟩, r2, r3⟩ := P14.two
          go_simp
          have hE' : Ext W0 ((V5.setCell ⟨V2.heap.size, 0, none⟩ (.int .i64 G.x)).setCell ⟨V2.heap.size, 1, none⟩ (.int .i64 G.y)) := ((hE.setNew (by first | omega | (simp; omega) | simp) _).setNew (by first | omega | (simp; omega) | simp) _)
          refine hK.out _ _ hE' (fun hHeld => ?_)
          clear hK K r0 r1 r2 r3
          (try simp only [Act.put, Ord.a, Ord.b, Ord.c])
          replace P14 := P14.set2 (u := .int .i64 G.x) (v := .int .i64 G.y)
          replace P13 := ((P13.away (p := ⟨V2.heap.size, 0, none⟩) (by simp; omega) (.int .i64 G.x)).away (p := ⟨V2.heap.size, 1, none⟩) (by simp; omega) (.int .i64 G.y))
          replace hE := hE'
          clear hE'
          generalize ((V5.setCell ⟨V2.heap.size, 0, none⟩ (.int .i64 G.x)).setCell ⟨V2.heap.size, 1, none⟩ (.int .i64 G.y)) = V6 at *
          refine wpAnyH_done (by kernel_rfl) ?_ _
          go_wp2_with fail; go_meet; exact ⟨⟨_, rfl, by omega, P13⟩, ⟨_, rfl, by omega, P14⟩, hE⟩
      · go_simp
        have hy : Ext V1 (V1.alloc (.cells #[.int .i64 0, .int .i64 0] 25)) := (Ext.refl V1).alloc _
        have hE' := hE.trans hy
        refine hK.out _ _ hE' (fun hHeld => ?_)
        clear hK K
        (try simp only [Act.put, Ord.a, Ord.b, Ord.c])
        replace P13 := P13.ext hy
        have P14 : Box (V1.alloc (.cells #[.int .i64 0, .int .i64 0] 25)) V1.heap.size [.int .i64 0, .int .i64 0] := Box.new (vs := [.int .i64 0, .int .i64 0]) rfl
        have z14 := Ext.size hE
        have y14 : V1.heap.size < (V1.alloc (.cells #[.int .i64 0, .int .i64 0] 25)).heap.size := by simp
        replace hE := hE'
        clear hE' hy
        generalize V1.alloc (.cells #[.int .i64 0, .int .i64 0] 25) = V2 at *
        refine wpAnyH_ready (rs := [5]) (by kernel_rfl) (by simp) ?_
        refine (AllReadyH.cons rfl (fun K hK => ?_) AllReadyH.nil)
        go_simp
        go_at_call 139
        refine (P1.out _).mono ?_
        rintro e V3 ⟨rfl, hy⟩
        go_wp2_with fail
        have zy := Ext.size hy
        have hE' := hE.trans hy
        refine hK.out _ _ hE' (fun hHeld => ?_)
        clear hK K
        (try simp only [Act.put, Ord.a, Ord.b, Ord.c])
        replace P13 := P13.ext hy
        replace P14 := P14.ext hy
        replace hE := hE'
        clear hE' hy
        refine wpAnyH_ready (rs := [12]) (by kernel_rfl) (by simp) ?_
        refine (AllReadyH.cons rfl (fun K hK => ?_) AllReadyH.nil)
        go_simp
        go_at_call 139
        refine (P2.out _).mono ?_
        rintro e V4 ⟨rfl, hy⟩
        go_wp2_with fail
        have zy := Ext.size hy
        have hE' := hE.trans hy
        refine hK.out _ _ hE' (fun hHeld => ?_)
        clear hK K
        (try simp only [Act.put, Ord.a, Ord.b, Ord.c])
        replace P13 := P13.ext hy
        replace P14 := P14.ext hy
        replace hE := hE'
        clear hE' hy
        refine wpAnyH_ready (rs := [15]) (by kernel_rfl) (by simp) ?_
        refine (AllReadyH.cons rfl (fun K hK => ?_) AllReadyH.nil)
        obtain ⟨⟨r0, r1⟩, r2, r3⟩ := P13.two
        go_simp
        have hE' : Ext W0 ((V4.setCell ⟨V0.heap.size, 0, none⟩ (.int .i64 F.x)).setCell ⟨V0.heap.size, 1, none⟩ (.int .i64 F.y)) := ((hE.setNew (by first | omega | (simp; omega) | simp) _).setNew (by first | omega | (simp; omega) | simp) _)
        refine hK.out _ _ hE' (fun hHeld => ?_)
        clear hK K r0 r1 r2 r3
        (try simp only [Act.put, Ord.a, Ord.b, Ord.c])
        replace P13 := P13.set2 (u := .int .i64 F.x) (v := .int .i64 F.y)
        replace P14 := ((P14.away (p := ⟨V0.heap.size, 0, none⟩) (by simp; omega) (.int .i64 F.x)).away (p := ⟨V0.heap.size, 1, none⟩) (by simp; omega) (.int .i64 F.y))
        replace hE := hE'
        clear hE'
        generalize ((V4.setCell ⟨V0.heap.size, 0, none⟩ (.int .i64 F.x)).setCell ⟨V0.heap.size, 1, none⟩ (.int .i64 F.y)) = V5 at *
        refine wpAnyH_ready (rs := [16]) (by kernel_rfl) (by simp) ?_
        refine (AllReadyH.cons rfl (fun K hK => ?_) AllReadyH.nil)
        obtain ⟨⟨r0, r1⟩, r2, r3⟩ := P14.two
        go_simp
        have hE' : Ext W0 ((V5.setCell ⟨V1.heap.size, 0, none⟩ (.int .i64 G.x)).setCell ⟨V1.heap.size, 1, none⟩ (.int .i64 G.y)) := ((hE.setNew (by first | omega | (simp; omega) | simp) _).setNew (by first | omega | (simp; omega) | simp) _)
        refine hK.out _ _ hE' (fun hHeld => ?_)
        clear hK K r0 r1 r2 r3
        (try simp only [Act.put, Ord.a, Ord.b, Ord.c])
        replace P14 := P14.set2 (u := .int .i64 G.x) (v := .int .i64 G.y)
        replace P13 := ((P13.away (p := ⟨V1.heap.size, 0, none⟩) (by simp; omega) (.int .i64 G.x)).away (p := ⟨V1.heap.size, 1, none⟩) (by simp; omega) (.int .i64 G.y))
        replace hE := hE'
        clear hE'
        generalize ((V5.setCell ⟨V1.heap.size, 0, none⟩ (.int .i64 G.x)).setCell ⟨V1.heap.size, 1, none⟩ (.int .i64 G.y)) = V6 at *
        refine wpAnyH_done (by kernel_rfl) ?_ _
        go_wp2_with fail; go_meet; exact ⟨⟨_, rfl, by omega, P13⟩, ⟨_, rfl, by omega, P14⟩, hE⟩
    · go_simp
      have hy : Ext V0 (V0.alloc (.cells #[.int .i64 0, .int .i64 0] 25)) := (Ext.refl V0).alloc _
      have hE' := hE.trans hy
      refine hK.out _ _ hE' (fun hHeld => ?_)
      clear hK K
      (try simp only [Act.put, Ord.a, Ord.b, Ord.c])
      have P14 : Box (V0.alloc (.cells #[.int .i64 0, .int .i64 0] 25)) V0.heap.size [.int .i64 0, .int .i64 0] := Box.new (vs := [.int .i64 0, .int .i64 0]) rfl
      have z14 := Ext.size hE
      have y14 : V0.heap.size < (V0.alloc (.cells #[.int .i64 0, .int .i64 0] 25)).heap.size := by simp
      replace hE := hE'
      clear hE' hy
      generalize V0.alloc (.cells #[.int .i64 0, .int .i64 0] 25) = V1 at *
      refine wpAnyH_ready (rs := [5, 13]) (by kernel_rfl) (by simp) ?_
      refine (AllReadyH.cons rfl (fun K hK => ?_) (AllReadyH.cons rfl (fun K hK => ?_) AllReadyH.nil))
      · go_simp
        go_at_call 139
        refine (P1.out _).mono ?_
        rintro e V2 ⟨rfl, hy⟩
        go_wp2_with fail
        have zy := Ext.size hy
        have hE' := hE.trans hy
        refine hK.out _ _ hE' (fun hHeld => ?_)
        clear hK K
        (try simp only [Act.put, Ord.a, Ord.b, Ord.c])
        replace P14 := P14.ext hy
        replace hE := hE'
        clear hE' hy
        refine wpAnyH_ready (rs := [12, 13]) (by kernel_rfl) (by simp) ?_
        refine (AllReadyH.cons rfl (fun K hK => ?_) (AllReadyH.cons rfl (fun K hK => ?_) AllReadyH.nil))
        · go_simp
          go_at_call 139
          refine (P2.out _).mono ?_
          rintro e V3 ⟨rfl, hy⟩
          go_wp2_with fail
          have zy := Ext.size hy
          have hE' := hE.trans hy
          refine hK.out _ _ hE' (fun hHeld => ?_)
          clear hK K
          (try simp only [Act.put, Ord.a, Ord.b, Ord.c])
          replace P14 := P14.ext hy
          replace hE := hE'
          clear hE' hy
          refine wpAnyH_ready (rs := [13]) (by kernel_rfl) (by simp) ?_
          refine (AllReadyH.cons rfl (fun K hK => ?_) AllReadyH.nil)
          go_simp
          have hy : Ext V3 (V3.alloc (.cells #[.int .i64 0, .int .i64 0] 25)) := (Ext.refl V3).alloc _
          have hE' := hE.trans hy
          refine hK.out _ _ hE' (fun hHeld => ?_)
          clear hK K
          (try simp only [Act.put, Ord.a, Ord.b, Ord.c])
          replace P14 := P14.ext hy
          have P13 : Box (V3.alloc (.cells #[.int .i64 0, .int .i64 0] 25)) V3.heap.size [.int .i64 0, .int .i64 0] := Box.new (vs := [.int .i64 0, .int .i64 0]) rfl
          have z13 := Ext.size hE
          have y13 : V3.heap.size < (V3.alloc (.cells #[.int .i64 0, .int .i64 0] 25)).heap.size := by simp
          replace hE := hE'
          clear hE' hy
          generalize V3.alloc (.cells #[.int .i64 0, .int .i64 0] 25) = V4 at *
          refine wpAnyH_ready (rs := [15]) (by kernel_rfl) (by simp) ?_
          refine (AllReadyH.cons rfl (fun K hK => ?_) AllReadyH.nil)
          obtain ⟨⟨r0, r1⟩, r2, r3⟩ := P13.two
          go_simp
          have hE' : Ext W0 ((V4.setCell ⟨V3.heap.size, 0, none⟩ (.int .i64 F.x)).setCell ⟨V3.heap.size, 1, none⟩ (.int .i64 F.y)) := ((hE.setNew (by first | omega | (simp; omega) | simp) _).setNew (by first | omega | (simp; omega) | simp) _)
          refine hK.out _ _ hE' (fun hHeld => ?_)
          clear hK K r0 r1 r2 r3
          (try simp only [Act.put, Ord.a, Ord.b, Ord.c])
          replace P13 := P13.set2 (u := .int .i64 F.x) (v := .int .i64 F.y)
          replace P14 := ((P14.away (p := ⟨V3.heap.size, 0, none⟩) (by simp; omega) (.int .i64 F.x)).away (p := ⟨V3.heap.size, 1, none⟩) (by simp; omega) (.int .i64 F.y))
          replace hE := hE'
          clear hE'
          generalize ((V4.setCell ⟨V3.heap.size, 0, none⟩ (.int .i64 F.x)).setCell ⟨V3.heap.size, 1, none⟩ (.int .i64 F.y)) = V5 at *
          refine wpAnyH_ready (rs := [16]) (by kernel_rfl) (by simp) ?_
          refine (AllReadyH.cons rfl (fun K hK => ?_) AllReadyH.nil)
          obtain ⟨⟨r0, r1⟩, r2, r3⟩ := P14.two
          go_simp
          have hE' : Ext W0 ((V5.setCell ⟨V0.heap.size, 0, none⟩ (.int .i64 G.x)).setCell ⟨V0.heap.size, 1, none⟩ (.int .i64 G.y)) := ((hE.setNew (by first | omega | (simp; omega) | simp) _).setNew (by first | omega | (simp; omega) | simp) _)
          refine hK.out _ _ hE' (fun hHeld => ?_)
          clear hK K r0 r1 r2 r3
          (try simp only [Act.put, Ord.a, Ord.b, Ord.c])
          replace P14 := P14.set2 (u := .int .i64 G.x) (v := .int .i64 G.y)
          replace P13 := ((P13.away (p := ⟨V0.heap.size, 0, none⟩) (by simp; omega) (.int .i64 G.x)).away (p := ⟨V0.heap.size, 1, none⟩) (by simp; omega) (.int .i64 G.y))
          replace hE := hE'
          clear hE'
          generalize ((V5.setCell ⟨V0.heap.size, 0, none⟩ (.int .i64 G.x)).setCell ⟨V0.heap.size, 1, none⟩ (.int .i64 G.y)) = V6 at *
          refine wpAnyH_done (by kernel_rfl) ?_ _
          go_wp2_with fail; go_meet; exact ⟨⟨_, rfl, by omega, P13⟩, ⟨_, rfl, by omega, P14⟩, hE⟩
        · go_simp
          have hy : Ext V2 (V2.alloc (.cells #[.int .i64 0, .int .i64 0] 25)) := (Ext.refl V2).alloc _
          have hE' := hE.trans hy
          refine hK.out _ _ hE' (fun hHeld => ?_)
          clear hK K
          (try simp only [Act.put, Ord.a, Ord.b, Ord.c])
          replace P14 := P14.ext hy
          have P13 : Box (V2.alloc (.cells #[.int .i64 0, .int .i64 0] 25)) V2.heap.size [.int .i64 0, .int .i64 0] := Box.new (vs := [.int .i64 0, .int .i64 0]) rfl
          have z13 := Ext.size hE
          have y13 : V2.heap.size < (V2.alloc (.cells #[.int .i64 0, .int .i64 0] 25)).heap.size := by simp
          replace hE := hE'
          clear hE' hy
          generalize V2.alloc (.cells #[.int .i64 0, .int .i64 0] 25) = V3 at *
          refine wpAnyH_ready (rs := [12]) (by kernel_rfl) (by simp) ?_
          refine (AllReadyH.cons rfl (fun K hK => ?_) AllReadyH.nil)
          go_simp
          go_at_call 139
          refine (P2.out _).mono ?_
          rintro e V4 ⟨rfl, hy⟩
          go_wp2_with fail
          have zy := Ext.size hy
          have hE' := hE.trans hy
          refine hK.out _ _ hE' (fun hHeld => ?_)
          clear hK K
          (try simp only [Act.put, Ord.a, Ord.b, Ord.c])
          replace P14 := P14.ext hy
          replace P13 := P13.ext hy
          replace hE := hE'
          clear hE' hy
          refine wpAnyH_ready (rs := [15]) (by kernel_rfl) (by simp) ?_
          refine (AllReadyH.cons rfl (fun K hK => ?_) AllReadyH.nil)
          obtain ⟨⟨r0, r1⟩, r2, r3⟩ := P13.two
          go_simp
          have hE' : Ext W0 ((V4.setCell ⟨V2.heap.size, 0, none⟩ (.int .i64 F.x)).setCell ⟨V2.heap.size, 1, none⟩ (.int .i64 F.y)) := ((hE.setNew (by first | omega | (simp; omega) | simp) _).setNew (by first | omega | (simp; omega) | simp) _)
          refine hK.out _ _ hE' (fun hHeld => ?_)
          clear hK K r0 r1 r2 r3
          (try simp only [Act.put, Ord.a, Ord.b, Ord.c])
          replace P13 := P13.set2 (u := .int .i64 F.x) (v := .int .i64 F.y)
          replace P14 := ((P14.away (p := ⟨V2.heap.size, 0, none⟩) (by simp; omega) (.int .i64 F.x)).away (p := ⟨V2.heap.size, 1, none⟩) (by simp; omega) (.int .i64 F.y))
          replace hE := hE'
          clear hE'
          generalize ((V4.setCell ⟨V2.heap.size, 0, none⟩ (.int .i64 F.x)).setCell ⟨V2.heap.size, 1, none⟩ (.int .i64 F.y)) = V5 at *
          refine wpAnyH_ready (rs := [16]) (by kernel_rfl) (by simp) ?_
          refine (AllReadyH.cons rfl (fun K hK => ?_) AllReadyH.nil)
          obtain ⟨⟨r0, r1⟩, r2, r3⟩ := P14.two
          go_simp
          have hE' : Ext W0 ((V5.setCell ⟨V0.heap.size, 0, none⟩ (.int .i64 G.x)).setCell ⟨V0.heap.size, 1, none⟩ (.int .i64 G.y)) := ((hE.setNew (by first | omega | (simp; omega) | simp) _).setNew (by first | omega | (simp; omega) | simp) _)
          refine hK.out _ _ hE' (fun hHeld => ?_)
          clear hK K r0 r1 r2 r3
          (try simp only [Act.put, Ord.a, Ord.b, Ord.c])
          replace P14 := P14.set2 (u := .int .i64 G.x) (v := .int .i64 G.y)
          replace P13 := ((P13.away (p := ⟨V0.heap.size, 0, none⟩) (by simp; omega) (.int .i64 G.x)).away (p := ⟨V0.heap.size, 1, none⟩) (by simp; omega) (.int .i64 G.y))
          replace hE := hE'
          clear hE'
          generalize ((V5.setCell ⟨V0.heap.size, 0, none⟩ (.int .i64 G.x)).setCell ⟨V0.heap.size, 1, none⟩ (.int .i64 G.y)) = V6 at *
          refine wpAnyH_done (by kernel_rfl) ?_ _
          go_wp2_with fail; go_meet; exact ⟨⟨_, rfl, by omega, P13⟩, ⟨_, rfl, by omega, P14⟩, hE⟩
      · go_simp
        have hy : Ext V1 (V1.alloc (.cells #[.int .i64 0, .int .i64 0] 25)) := (Ext.refl V1).alloc _
        have hE' := hE.trans hy
        refine hK.out _ _ hE' (fun hHeld => ?_)
        clear hK K
        (try simp only [Act.put, Ord.a, Ord.b, Ord.c])
        replace P14 := P14.ext hy
        have P13 : Box (V1.alloc (.cells #[.int .i64 0, .int .i64 0] 25)) V1.heap.size [.int .i64 0, .int .i64 0] := Box.new (vs := [.int .i64 0, .int .i64 0]) rfl
        have z13 := Ext.size hE
        have y13 : V1.heap.size < (V1.alloc (.cells #[.int .i64 0, .int .i64 0] 25)).heap.size := by simp
        replace hE := hE'
        clear hE' hy
        generalize V1.alloc (.cells #[.int .i64 0, .int .i64 0] 25) = V2 at *
        refine wpAnyH_ready (rs := [5]) (by kernel_rfl) (by simp) ?_
        refine (AllReadyH.cons rfl (fun K hK => ?_) AllReadyH.nil)
        go_simp
        go_at_call 139
        refine (P1.out _).mono ?_
        rintro e V3 ⟨rfl, hy⟩
        go_wp2_with fail
        have zy := Ext.size hy
        have hE' := hE.trans hy
        refine hK.out _ _ hE' (fun hHeld => ?_)
        clear hK K
        (try simp only [Act.put, Ord.a, Ord.b, Ord.c])
        replace P14 := P14.ext hy
        replace P13 := P13.ext hy
        replace hE := hE'
        clear hE' hy
        refine wpAnyH_ready (rs := [12]) (by kernel_rfl) (by simp) ?_
        refine (AllReadyH.cons rfl (fun K hK => ?_) AllReadyH.nil)
        go_simp
        go_at_call 139
        refine (P2.out _).mono ?_
        rintro e V4 ⟨rfl, hy⟩
        go_wp2_with fail
        have zy := Ext.size hy
        have hE' := hE.trans hy
        refine hK.out _ _ hE' (fun hHeld => ?_)
        clear hK K
        (try simp only [Act.put, Ord.a, Ord.b, Ord.c])
        replace P14 := P14.ext hy
        replace P13 := P13.ext hy
        replace hE := hE'
        clear hE' hy
        refine wpAnyH_ready (rs := [15]) (by kernel_rfl) (by simp) ?_
        refine (AllReadyH.cons rfl (fun K hK => ?_) AllReadyH.nil)
        obtain ⟨⟨r0, r1⟩, r2, r3⟩ := P13.two
        go_simp
        have hE' : Ext W0 ((V4.setCell ⟨V1.heap.size, 0, none⟩ (.int .i64 F.x)).setCell ⟨V1.heap.size, 1, none⟩ (.int .i64 F.y)) := ((hE.setNew (by first | omega | (simp; omega) | simp) _).setNew (by first | omega | (simp; omega) | simp) _)
        refine hK.out _ _ hE' (fun hHeld => ?_)
        clear hK K r0 r1 r2 r3
        (try simp only [Act.put, Ord.a, Ord.b, Ord.c])
        replace P13 := P13.set2 (u := .int .i64 F.x) (v := .int .i64 F.y)
        replace P14 := ((P14.away (p := ⟨V1.heap.size, 0, none⟩) (by simp; omega) (.int .i64 F.x)).away (p := ⟨V1.heap.size, 1, none⟩) (by simp; omega) (.int .i64 F.y))
        replace hE := hE'
        clear hE'
        generalize ((V4.setCell ⟨V1.heap.size, 0, none⟩ (.int .i64 F.x)).setCell ⟨V1.heap.size, 1, none⟩ (.int .i64 F.y)) = V5 at *
        refine wpAnyH_ready (rs := [16]) (by kernel_rfl) (by simp) ?_
        refine (AllReadyH.cons rfl (fun K hK => ?_) AllReadyH.nil)
        obtain ⟨⟨r0, r1⟩, r2, r3⟩ := P14.two
        go_simp
        have hE' : Ext W0 ((V5.setCell ⟨V0.heap.size, 0, none⟩ (.int .i64 G.x)).setCell ⟨V0.heap.size, 1, none⟩ (.int .i64 G.y)) := ((hE.setNew (by first | omega | (simp; omega) | simp) _).setNew (by first | omega | (simp; omega) | simp) _)
        refine hK.out _ _ hE' (fun hHeld => ?_)
        clear hK K r0 r1 r2 r3
        (try simp only [Act.put, Ord.a, Ord.b, Ord.c])
        replace P14 := P14.set2 (u := .int .i64 G.x) (v := .int .i64 G.y)
        replace P13 := ((P13.away (p := ⟨V0.heap.size, 0, none⟩) (by simp; omega) (.int .i64 G.x)).away (p := ⟨V0.heap.size, 1, none⟩) (by simp; omega) (.int .i64 G.y))
        replace hE := hE'
        clear hE'
        generalize ((V5.setCell ⟨V0.heap.size, 0, none⟩ (.int .i64 G.x)).setCell ⟨V0.heap.size, 1, none⟩ (.int .i64 G.y)) = V6 at *
        refine wpAnyH_done (by kernel_rfl) ?_ _
        go_wp2_with fail; go_meet; exact ⟨⟨_, rfl, by omega, P13⟩, ⟨_, rfl, by omega, P14⟩, hE⟩
  case rest =>
    obtain ⟨⟨B7, rfl, n7, P7⟩, ⟨B8, rfl, n8, P8⟩, X1⟩ := hcut
    obtain ⟨⟨g0, g1⟩, _⟩ := P7.two
    obtain ⟨⟨g2, g3⟩, _⟩ := P8.two
    have m0 := e10 _ X1
    have m1 := e11 _ X1
    replace HB := Lib.hid (HB.out.ext X1)
    have zX := X1.size
    clear ec0 ec1 ec2 ed0 ed1 ed2
    by_cases h : F.x = G.x ∧ F.y = G.y
    · have q1 : (F.x == G.x) = true := beq_iff_eq.2 h.1
      have q2 : (F.y == G.y) = true := beq_iff_eq.2 h.2
      have H1 := Lib.hid (show npX F.x F.y G.x G.y p q = F.x from if_pos h)
      have H2 := Lib.hid (show npY F.x F.y G.x G.y p q = F.y from if_pos h)
      obtain ⟨⟨r0, r1⟩, s0, s1⟩ := HB.out.two
      clear h
      go_wp2
      exact nsp_done (HB.out.set2 (u := .int .i64 F.x) (v := .int .i64 F.y)) (((hX.trans X1).setNew (p := ⟨w.heap.size + 1 + 1, 0, none⟩) (by simp <;> omega) _).setNew (p := ⟨w.heap.size + 1 + 1, 1, none⟩) (by simp <;> omega) _) rfl (HX.out.trans H1.out) (HY.out.trans H2.out)
    · have H1 := Lib.hid (show npX F.x F.y G.x G.y p q = F.x + pa (neN F.x F.y G.x G.y p q) (neD F.x F.y G.x G.y p q) (G.x - F.x) from if_neg h)
      have H2 := Lib.hid (show npY F.x F.y G.x G.y p q = F.y + pa (neN F.x F.y G.x G.y p q) (neD F.x F.y G.x G.y p q) (G.y - F.y) from if_neg h)
      obtain ⟨k1, k2, d1, d2, _⟩ := ND.out h
      have PN2 := Lib.hid (fun w' => PN.out w' h)
      generalize neN F.x F.y G.x G.y p q = N at *
      generalize neD F.x F.y G.x G.y p q = D at *
      have PA2 := Lib.hid (fun w' => PA.out N D w' k1 k2 d1 d2)
      have PB2 := Lib.hid (fun w' => PB.out N D w' k1 k2 d1 d2)
      generalize F.x + pa N D (G.x - F.x) = X at *
      generalize F.y + pa N D (G.y - F.y) = Y at *
      clear PN PA PB ND k1 k2 d1 d2
      cases q1 : (F.x == G.x)
      · clear h
        go_wp2_with fail
        refine (PN2.out _).mono ?_
        rintro e w4 ⟨rfl, hy⟩
        obtain ⟨W5, hW5⟩ : ∃ W5, W5 = w4.alloc (.cells #[.int .i64 N, .int .i64 D] 166) := ⟨_, rfl⟩
        have h5 : Ext wc W5 := hW5 ▸ hy.alloc _
        have n9 : w4.heap.size ≠ w.heap.size + 1 + 1 := by have := hy.size; omega
        have S5 : ResC W5 (w.heap.size + 1 + 1) 2 W5 := ResC.of2 (HB.out.ext h5)
        have f70 : ∀ w', ResC W5 (w.heap.size + 1 + 1) 2 w' → w'.cell? ⟨B7, 0, none⟩ = some (.int .i64 F.x) := fun w' h => h.cell (by simp; omega) (h5.cellOf g0)
        have f71 : ∀ w', ResC W5 (w.heap.size + 1 + 1) 2 w' → w'.cell? ⟨B7, 1, none⟩ = some (.int .i64 F.y) := fun w' h => h.cell (by simp; omega) (h5.cellOf g1)
        have f80 : ∀ w', ResC W5 (w.heap.size + 1 + 1) 2 w' → w'.cell? ⟨B8, 0, none⟩ = some (.int .i64 G.x) := fun w' h => h.cell (by simp; omega) (h5.cellOf g2)
        have f81 : ∀ w', ResC W5 (w.heap.size + 1 + 1) 2 w' → w'.cell? ⟨B8, 1, none⟩ = some (.int .i64 G.y) := fun w' h => h.cell (by simp; omega) (h5.cellOf g3)
        have f90 : ∀ w', ResC W5 (w.heap.size + 1 + 1) 2 w' → w'.cell? ⟨w4.heap.size, 0, none⟩ = some (.int .i64 N) := fun w' h => h.cell (by simp; omega) (hW5 ▸ boxed 0 rfl rfl)
        have f91 : ∀ w', ResC W5 (w.heap.size + 1 + 1) 2 w' → w'.cell? ⟨w4.heap.size, 1, none⟩ = some (.int .i64 D) := fun w' h => h.cell (by simp; omega) (hW5 ▸ boxed 1 rfl rfl)
        clear g0 g1 g2 g3 m0 m1
        go_upto_region 5 with fail
        rw [← hW5]
        clear hW5
        refine wp_region_held_drew (S := (ResC W5 (w.heap.size + 1 + 1) 2)) (by kernel_rfl) (by (try dsimp only); first | go_keep | exact (Ext.refl _).drew | exact Res.new2.drew | exact Res.new4.drew | exact ResB.drew (by assumption) | exact ResC.drew (by assumption) | assumption | exact Ext.drew (by assumption) | exact Res.drew (by assumption)) (fun hHeld => ?_)
        (refine Ord.k 0 32 (v := ?_) ?_ ?_; rotate_left; (intro w h; (try dsimp only at h); go_simp; (try with_reducible rfl)); (try simp only [Act.put, Ord.a, Ord.b, Ord.c]))
        (refine Ord.k 1 33 (v := ?_) ?_ ?_; rotate_left; (intro w h; (try dsimp only at h); go_simp; (try with_reducible rfl)); (try simp only [Act.put, Ord.a, Ord.b, Ord.c]))
        (refine Ord.k 2 34 (v := ?_) ?_ ?_; rotate_left; (intro w h; (try dsimp only at h); go_simp; (try with_reducible rfl)); (try simp only [Act.put, Ord.a, Ord.b, Ord.c]))
        (refine Ord.k 3 35 (v := ?_) ?_ ?_; rotate_left; (intro w h; (try dsimp only at h); go_simp; (try with_reducible rfl)); (try simp only [Act.put, Ord.a, Ord.b, Ord.c]))
        (refine Ord.k 4 36 (v := ?_) ?_ ?_; rotate_left; (intro w h; (try dsimp only at h); go_simp; (try with_reducible rfl)); (try simp only [Act.put, Ord.a, Ord.b, Ord.c]))
        (refine Ord.k 6 38 (v := ?_) ?_ ?_; rotate_left; (intro w h; (try dsimp only at h); go_simp; (try with_reducible rfl)); (try simp only [Act.put, Ord.a, Ord.b, Ord.c]))
        (refine Ord.k 7 39 (v := ?_) ?_ ?_; rotate_left; (intro w h; (try dsimp only at h); go_simp; (try with_reducible rfl)); (try simp only [Act.put, Ord.a, Ord.b, Ord.c]))
        (refine Ord.k 8 40 (v := ?_) ?_ ?_; rotate_left; (intro w h; (try dsimp only at h); go_simp; (try with_reducible rfl)); (try simp only [Act.put, Ord.a, Ord.b, Ord.c]))
        (refine Ord.k 9 41 (v := ?_) ?_ ?_; rotate_left; (intro w h; (try dsimp only at h); go_simp; (try with_reducible rfl)); (try simp only [Act.put, Ord.a, Ord.b, Ord.c]))
        (refine Ord.k 10 42 (v := ?_) ?_ ?_; rotate_left; (intro w h; (try dsimp only at h); go_simp; (try with_reducible rfl)); (try simp only [Act.put, Ord.a, Ord.b, Ord.c]))
        (refine wpAnyH_ready (rs := [5]) (by kernel_rfl) (by simp) ?_; refine AllReadyH.cons rfl (fun K hK => ?_) AllReadyH.nil; go_simp; (first | (go_at_call 130; with_reducible refine (PA2.out _).mono ?_; rintro e w6 ⟨rfl, hy⟩) | (go_at_call 130; with_reducible refine (PB2.out _).mono ?_; rintro e w7 ⟨rfl, hy⟩)); go_wp2_with fail; (refine hK.out _ _ (by first | assumption | exact Ext.trans (by assumption) hy | exact Res.ext (by assumption) hy | exact ResB.ext (by assumption) hy | exact ResC.ext (by assumption) hy | (go_split_ands; (repeat' apply And.intro) <;> exact Ext.cellOf hy (by assumption))) (fun hHeld => ?_)); clear hK K; (try simp only [Act.put, Ord.a, Ord.b, Ord.c]))
        (refine wpAnyH_ready (rs := [11]) (by kernel_rfl) (by simp) ?_; refine AllReadyH.cons rfl (fun K hK => ?_) AllReadyH.nil; go_simp; (first | (go_at_call 130; with_reducible refine (PA2.out _).mono ?_; rintro e w6 ⟨rfl, hy⟩) | (go_at_call 130; with_reducible refine (PB2.out _).mono ?_; rintro e w7 ⟨rfl, hy⟩)); go_wp2_with fail; (refine hK.out _ _ (by first | assumption | exact Ext.trans (by assumption) hy | exact Res.ext (by assumption) hy | exact ResB.ext (by assumption) hy | exact ResC.ext (by assumption) hy | (go_split_ands; (repeat' apply And.intro) <;> exact Ext.cellOf hy (by assumption))) (fun hHeld => ?_)); clear hK K; (try simp only [Act.put, Ord.a, Ord.b, Ord.c]))
        (refine Ord.k 12 44 (v := ?_) ?_ ?_; rotate_left; (intro w h; (try dsimp only at h); go_simp; (try with_reducible rfl)); (try simp only [Act.put, Ord.a, Ord.b, Ord.c]))
        ((first | ((first | refine Exists.elim (Res.two hHeld) (fun rx rh => ?_) | refine Exists.elim (ResC.two hHeld) (fun rx rh => ?_) | refine Exists.elim (Res.two hHeld.1) (fun rx rh => ?_)); refine Exists.elim rh (fun ry rb => ?_); have r0 := rb.two.1.1; have r1 := rb.two.1.2; have r2 := rb.two.2.1; have r3 := rb.two.2.2; clear rh) | ((first | refine Exists.elim (Res.four hHeld) (fun rx rh => ?_) | refine Exists.elim (Res.four hHeld.1) (fun rx rh => ?_)); refine Exists.elim rh (fun ry rh => ?_); refine Exists.elim rh (fun rz rh => ?_); refine Exists.elim rh (fun ru rb => ?_); have r0 := rb.four.1.1; have r1 := rb.four.1.2.1; have r2 := rb.four.1.2.2.1; have r3 := rb.four.1.2.2.2; have r4 := rb.four.2.1; have r5 := rb.four.2.2.1; have r6 := rb.four.2.2.2.1; have r7 := rb.four.2.2.2.2; clear rh) | (refine Exists.elim (Res.three hHeld) (fun rx rh => ?_); refine Exists.elim rh (fun ry rh => ?_); refine Exists.elim rh (fun rz rb => ?_); have r0 := rb.three'.1.1; have r1 := rb.three'.1.2.1; have r2 := rb.three'.1.2.2; have r3 := rb.three'.2.1; have r4 := rb.three'.2.2.1; have r5 := rb.three'.2.2.2; clear rh; (try simp only [World.cell?_drew, World.frozen?_drew] at r0 r1 r2 r3 r4 r5)) | (refine Exists.elim (Res.five hHeld) (fun rx rh => ?_); refine Exists.elim rh (fun ry rh => ?_); refine Exists.elim rh (fun rz rh => ?_); refine Exists.elim rh (fun ru rh => ?_); refine Exists.elim rh (fun rt rb => ?_); have r0 := rb.five.1.1; have r1 := rb.five.1.2.1; have r2 := rb.five.1.2.2.1; have r3 := rb.five.1.2.2.2.1; have r4 := rb.five.1.2.2.2.2; have r5 := rb.five.2.1; have r6 := rb.five.2.2.1; have r7 := rb.five.2.2.2.1; have r8 := rb.five.2.2.2.2.1; have r9 := rb.five.2.2.2.2.2; clear rh; (try simp only [World.cell?_drew, World.frozen?_drew] at r0 r1 r2 r3 r4 r5 r6 r7 r8 r9)) | (refine Exists.elim (SD.one hHeld) (fun rx rh => ?_); have r0 := rh.1; have r1 := rh.2; clear rh)); refine wpAnyH_ready (rs := [13]) (by kernel_rfl) (by simp) ?_; refine AllReadyH.cons rfl (fun K hK => ?_) AllReadyH.nil; go_simp; (refine hK.out _ _ (by first | with_reducible exact SD.set hHeld _ | with_reducible exact Res.set (Res.set hHeld _ _) _ _ | with_reducible exact ResB.set (ResB.set hHeld _ _) _ _ | with_reducible exact ResC.set (ResC.set hHeld _ _) _ _ | with_reducible exact Res.set (Res.set (Res.set (Res.set hHeld _ _) _ _) _ _) _ _ | with_reducible exact ResB.set (ResB.set (ResB.set (ResB.set hHeld _ _) _ _) _ _) _ _ | with_reducible exact Res.set (Res.set (Res.set hHeld _ _) _ _) _ _ | with_reducible exact Res.set (Res.set (Res.set (Res.set (Res.set hHeld _ _) _ _) _ _) _ _) _ _) (fun hHeld => ?_)); clear hK K; (try simp only [Act.put, Ord.a, Ord.b, Ord.c]))
        refine wpAnyH_done (by kernel_rfl) ?_ _
        go_wp2
        exact nsp_done (rb.set2 (u := .int .i64 X) (v := .int .i64 Y)) (hHeld.to (hX.trans (X1.trans h5)) (by omega)) rfl (HX.out.trans H1.out) (HY.out.trans H2.out)
      · have q2 : (F.y == G.y) = false := beq_eq_false_iff_ne.2 (fun e => h ⟨beq_iff_eq.1 q1, e⟩)
        clear h
        go_wp2_with fail
        refine (PN2.out _).mono ?_
        rintro e w4 ⟨rfl, hy⟩
        obtain ⟨W5, hW5⟩ : ∃ W5, W5 = w4.alloc (.cells #[.int .i64 N, .int .i64 D] 166) := ⟨_, rfl⟩
        have h5 : Ext wc W5 := hW5 ▸ hy.alloc _
        have n9 : w4.heap.size ≠ w.heap.size + 1 + 1 := by have := hy.size; omega
        have S5 : ResC W5 (w.heap.size + 1 + 1) 2 W5 := ResC.of2 (HB.out.ext h5)
        have f70 : ∀ w', ResC W5 (w.heap.size + 1 + 1) 2 w' → w'.cell? ⟨B7, 0, none⟩ = some (.int .i64 F.x) := fun w' h => h.cell (by simp; omega) (h5.cellOf g0)
        have f71 : ∀ w', ResC W5 (w.heap.size + 1 + 1) 2 w' → w'.cell? ⟨B7, 1, none⟩ = some (.int .i64 F.y) := fun w' h => h.cell (by simp; omega) (h5.cellOf g1)
        have f80 : ∀ w', ResC W5 (w.heap.size + 1 + 1) 2 w' → w'.cell? ⟨B8, 0, none⟩ = some (.int .i64 G.x) := fun w' h => h.cell (by simp; omega) (h5.cellOf g2)
        have f81 : ∀ w', ResC W5 (w.heap.size + 1 + 1) 2 w' → w'.cell? ⟨B8, 1, none⟩ = some (.int .i64 G.y) := fun w' h => h.cell (by simp; omega) (h5.cellOf g3)
        have f90 : ∀ w', ResC W5 (w.heap.size + 1 + 1) 2 w' → w'.cell? ⟨w4.heap.size, 0, none⟩ = some (.int .i64 N) := fun w' h => h.cell (by simp; omega) (hW5 ▸ boxed 0 rfl rfl)
        have f91 : ∀ w', ResC W5 (w.heap.size + 1 + 1) 2 w' → w'.cell? ⟨w4.heap.size, 1, none⟩ = some (.int .i64 D) := fun w' h => h.cell (by simp; omega) (hW5 ▸ boxed 1 rfl rfl)
        clear g0 g1 g2 g3 m0 m1
        go_upto_region 5 with fail
        rw [← hW5]
        clear hW5
        refine wp_region_held_drew (S := (ResC W5 (w.heap.size + 1 + 1) 2)) (by kernel_rfl) (by (try dsimp only); first | go_keep | exact (Ext.refl _).drew | exact Res.new2.drew | exact Res.new4.drew | exact ResB.drew (by assumption) | exact ResC.drew (by assumption) | assumption | exact Ext.drew (by assumption) | exact Res.drew (by assumption)) (fun hHeld => ?_)
        (refine Ord.k 0 32 (v := ?_) ?_ ?_; rotate_left; (intro w h; (try dsimp only at h); go_simp; (try with_reducible rfl)); (try simp only [Act.put, Ord.a, Ord.b, Ord.c]))
        (refine Ord.k 1 33 (v := ?_) ?_ ?_; rotate_left; (intro w h; (try dsimp only at h); go_simp; (try with_reducible rfl)); (try simp only [Act.put, Ord.a, Ord.b, Ord.c]))
        (refine Ord.k 2 34 (v := ?_) ?_ ?_; rotate_left; (intro w h; (try dsimp only at h); go_simp; (try with_reducible rfl)); (try simp only [Act.put, Ord.a, Ord.b, Ord.c]))
        (refine Ord.k 3 35 (v := ?_) ?_ ?_; rotate_left; (intro w h; (try dsimp only at h); go_simp; (try with_reducible rfl)); (try simp only [Act.put, Ord.a, Ord.b, Ord.c]))
        (refine Ord.k 4 36 (v := ?_) ?_ ?_; rotate_left; (intro w h; (try dsimp only at h); go_simp; (try with_reducible rfl)); (try simp only [Act.put, Ord.a, Ord.b, Ord.c]))
        (refine Ord.k 6 38 (v := ?_) ?_ ?_; rotate_left; (intro w h; (try dsimp only at h); go_simp; (try with_reducible rfl)); (try simp only [Act.put, Ord.a, Ord.b, Ord.c]))
        (refine Ord.k 7 39 (v := ?_) ?_ ?_; rotate_left; (intro w h; (try dsimp only at h); go_simp; (try with_reducible rfl)); (try simp only [Act.put, Ord.a, Ord.b, Ord.c]))
        (refine Ord.k 8 40 (v := ?_) ?_ ?_; rotate_left; (intro w h; (try dsimp only at h); go_simp; (try with_reducible rfl)); (try simp only [Act.put, Ord.a, Ord.b, Ord.c]))
        (refine Ord.k 9 41 (v := ?_) ?_ ?_; rotate_left; (intro w h; (try dsimp only at h); go_simp; (try with_reducible rfl)); (try simp only [Act.put, Ord.a, Ord.b, Ord.c]))
        (refine Ord.k 10 42 (v := ?_) ?_ ?_; rotate_left; (intro w h; (try dsimp only at h); go_simp; (try with_reducible rfl)); (try simp only [Act.put, Ord.a, Ord.b, Ord.c]))
        (refine wpAnyH_ready (rs := [5]) (by kernel_rfl) (by simp) ?_; refine AllReadyH.cons rfl (fun K hK => ?_) AllReadyH.nil; go_simp; (first | (go_at_call 130; with_reducible refine (PA2.out _).mono ?_; rintro e w6 ⟨rfl, hy⟩) | (go_at_call 130; with_reducible refine (PB2.out _).mono ?_; rintro e w7 ⟨rfl, hy⟩)); go_wp2_with fail; (refine hK.out _ _ (by first | assumption | exact Ext.trans (by assumption) hy | exact Res.ext (by assumption) hy | exact ResB.ext (by assumption) hy | exact ResC.ext (by assumption) hy | (go_split_ands; (repeat' apply And.intro) <;> exact Ext.cellOf hy (by assumption))) (fun hHeld => ?_)); clear hK K; (try simp only [Act.put, Ord.a, Ord.b, Ord.c]))
        (refine wpAnyH_ready (rs := [11]) (by kernel_rfl) (by simp) ?_; refine AllReadyH.cons rfl (fun K hK => ?_) AllReadyH.nil; go_simp; (first | (go_at_call 130; with_reducible refine (PA2.out _).mono ?_; rintro e w6 ⟨rfl, hy⟩) | (go_at_call 130; with_reducible refine (PB2.out _).mono ?_; rintro e w7 ⟨rfl, hy⟩)); go_wp2_with fail; (refine hK.out _ _ (by first | assumption | exact Ext.trans (by assumption) hy | exact Res.ext (by assumption) hy | exact ResB.ext (by assumption) hy | exact ResC.ext (by assumption) hy | (go_split_ands; (repeat' apply And.intro) <;> exact Ext.cellOf hy (by assumption))) (fun hHeld => ?_)); clear hK K; (try simp only [Act.put, Ord.a, Ord.b, Ord.c]))
        (refine Ord.k 12 44 (v := ?_) ?_ ?_; rotate_left; (intro w h; (try dsimp only at h); go_simp; (try with_reducible rfl)); (try simp only [Act.put, Ord.a, Ord.b, Ord.c]))
        ((first | ((first | refine Exists.elim (Res.two hHeld) (fun rx rh => ?_) | refine Exists.elim (ResC.two hHeld) (fun rx rh => ?_) | refine Exists.elim (Res.two hHeld.1) (fun rx rh => ?_)); refine Exists.elim rh (fun ry rb => ?_); have r0 := rb.two.1.1; have r1 := rb.two.1.2; have r2 := rb.two.2.1; have r3 := rb.two.2.2; clear rh) | ((first | refine Exists.elim (Res.four hHeld) (fun rx rh => ?_) | refine Exists.elim (Res.four hHeld.1) (fun rx rh => ?_)); refine Exists.elim rh (fun ry rh => ?_); refine Exists.elim rh (fun rz rh => ?_); refine Exists.elim rh (fun ru rb => ?_); have r0 := rb.four.1.1; have r1 := rb.four.1.2.1; have r2 := rb.four.1.2.2.1; have r3 := rb.four.1.2.2.2; have r4 := rb.four.2.1; have r5 := rb.four.2.2.1; have r6 := rb.four.2.2.2.1; have r7 := rb.four.2.2.2.2; clear rh) | (refine Exists.elim (Res.three hHeld) (fun rx rh => ?_); refine Exists.elim rh (fun ry rh => ?_); refine Exists.elim rh (fun rz rb => ?_); have r0 := rb.three'.1.1; have r1 := rb.three'.1.2.1; have r2 := rb.three'.1.2.2; have r3 := rb.three'.2.1; have r4 := rb.three'.2.2.1; have r5 := rb.three'.2.2.2; clear rh; (try simp only [World.cell?_drew, World.frozen?_drew] at r0 r1 r2 r3 r4 r5)) | (refine Exists.elim (Res.five hHeld) (fun rx rh => ?_); refine Exists.elim rh (fun ry rh => ?_); refine Exists.elim rh (fun rz rh => ?_); refine Exists.elim rh (fun ru rh => ?_); refine Exists.elim rh (fun rt rb => ?_); have r0 := rb.five.1.1; have r1 := rb.five.1.2.1; have r2 := rb.five.1.2.2.1; have r3 := rb.five.1.2.2.2.1; have r4 := rb.five.1.2.2.2.2; have r5 := rb.five.2.1; have r6 := rb.five.2.2.1; have r7 := rb.five.2.2.2.1; have r8 := rb.five.2.2.2.2.1; have r9 := rb.five.2.2.2.2.2; clear rh; (try simp only [World.cell?_drew, World.frozen?_drew] at r0 r1 r2 r3 r4 r5 r6 r7 r8 r9)) | (refine Exists.elim (SD.one hHeld) (fun rx rh => ?_); have r0 := rh.1; have r1 := rh.2; clear rh)); refine wpAnyH_ready (rs := [13]) (by kernel_rfl) (by simp) ?_; refine AllReadyH.cons rfl (fun K hK => ?_) AllReadyH.nil; go_simp; (refine hK.out _ _ (by first | with_reducible exact SD.set hHeld _ | with_reducible exact Res.set (Res.set hHeld _ _) _ _ | with_reducible exact ResB.set (ResB.set hHeld _ _) _ _ | with_reducible exact ResC.set (ResC.set hHeld _ _) _ _ | with_reducible exact Res.set (Res.set (Res.set (Res.set hHeld _ _) _ _) _ _) _ _ | with_reducible exact ResB.set (ResB.set (ResB.set (ResB.set hHeld _ _) _ _) _ _) _ _ | with_reducible exact Res.set (Res.set (Res.set hHeld _ _) _ _) _ _ | with_reducible exact Res.set (Res.set (Res.set (Res.set (Res.set hHeld _ _) _ _) _ _) _ _) _ _) (fun hHeld => ?_)); clear hK K; (try simp only [Act.put, Ord.a, Ord.b, Ord.c]))
        refine wpAnyH_done (by kernel_rfl) ?_ _
        go_wp2
        exact nsp_done (rb.set2 (u := .int .i64 X) (v := .int .i64 Y)) (hHeld.to (hX.trans (X1.trans h5)) (by omega)) rfl (HX.out.trans H1.out) (HY.out.trans H2.out)
end Go.Proofs.YtplbahdomjeekaaGreat.Crs
