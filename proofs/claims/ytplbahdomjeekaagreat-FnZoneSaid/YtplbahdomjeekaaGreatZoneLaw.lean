import Derived.Test.YtplbahdomjeekaaGreatMDrawZo
import Derived.Test.YtplbahdomjeekaaGreatZoneMath
import Derived.Test.YtplbahdomjeekaaGreatBig
import Derived.ChangeOld
import Derived.Below
import Derived.Lib.SmallJoins
namespace Go.Proofs.YtplbahdomjeekaaGreat.fnZone
open Go.ChangeShapes Go.WideShapes Go.ChangeAt Go.RowKit
open Go.Proofs.YtplbahdomjeekaaGreat.Kit Go.Proofs.YtplbahdomjeekaaGreat.Num Go.Proofs.YtplbahdomjeekaaGreat.Draw Go.Proofs.YtplbahdomjeekaaGreat.Pts Go.Proofs.YtplbahdomjeekaaGreat.Seg Go.Proofs.YtplbahdomjeekaaGreat.Crs Go.Proofs.YtplbahdomjeekaaGreat.Rt Go.Proofs.YtplbahdomjeekaaGreat.Root
open Go.Proofs.YtplbahdomjeekaaGreat.Trk (F3 Fxs Tr IntRow trB fx poX poY ctI position_impl)
set_option linter.unusedVariables false
set_option linter.unusedSimpArgs false
theorem sq_in {x y u v : Int} (h1 : ptB x y = true) (h2 : ptB u v = true) (w : World) : Calls Tryz.prog 22 #[Pt x y, Pt u v] w fun e w' => e = .returned (.tuple #[.int .i64 (sqD x y u v), .int .i64 0]) ∧ Ext w w' := by
  have := squareDistance_impl x y u v w
  rw [show sdQ x y u v = sqD x y u v from if_pos ⟨h1, h2⟩, show sdC x y u v = 0 from if_pos ⟨h1, h2⟩] at this
  exact this
def RelJ (w : World) (n : Nat) (i : Value) (wr : World) : Prop := ∃ j : Nat, i = .int .i64 j ∧ j ≤ n ∧ Ext w wr
set_option maxRecDepth 100000 in
set_option maxHeartbeats 8000000 in
theorem walk (c0 : Option Addr) (len cap : Nat) (zs : List Int) (w : World) (hr : IsRow .u8 w c0 len cap zs) :
    Calls Tryz.prog 3 #[.slice c0 len cap] w fun e w' => e = .returned (.bool true) ∧ Ext w w' := by
  have HB := Lib.hid hr.bytes
  clear hr
  by_cases hl : 4096 < len
  · have g := show bigB len = true from decide_eq_true hl
    go_enter Tryz.func3, Tryz.ntmps3
    go_wp2_with (go_at_call 15; refine (big_any _ _ _ _).mono ?_; rintro e w' ⟨rfl, rfl⟩)
    go_ret
    exact ⟨rfl, Ext.refl _⟩
  have g := show bigB len = false from decide_eq_false hl
  go_enter Tryz.func3, Tryz.ntmps3
  go_wp2_with fail
  refine (big_any _ _ _ _).mono ?_
  rintro e w' ⟨rfl, rfl⟩
  go_wp2_with fail
  refine (drawInZoneAt_any c0 len cap _ HB.out (by omega)).mono ?_
  rintro e w1 ⟨l, k, v, ms, q, gb, tc, n, p, rfl, h9, hFit, hO, h41, htc, hI, hx⟩
  obtain ⟨ao, mc, rfl, hM⟩ := hO.mks ⟨by unfold maxLen; omega, hFit⟩
  obtain ⟨fs, rfl, hF⟩ := hI.own
  have hFx := hF.fxs (by unfold maxLen; omega)
  obtain ⟨W, hW⟩ : ∃ W, W = (w1.alloc (.cells (cellsC l k (.slice ao ms.length mc)).toArray 30)).alloc (.cells #[.slice (some ⟨gb, 0, none⟩) fs.length tc] 33) := ⟨_, rfl⟩
  have hw1 : Ext w1 W := hW ▸ ((Ext.refl w1).alloc _).alloc _
  have CB := Lib.hid (show Box W w1.heap.size (cellsC l k (.slice ao ms.length mc)) by rw [hW]; exact (Box.new rfl).alloc _)
  have TB := Lib.hid (show Box W (w1.heap.size + 1) [.slice (some ⟨gb, 0, none⟩) fs.length tc] by rw [hW]; exact Box.new (vs := [.slice (some ⟨gb, 0, none⟩) fs.length tc]) (by simp))
  have HM := Lib.hid (hM.ext hw1)
  have HF := Lib.hid (hFx.ext hw1)
  have OO := Lib.hid (OwnM.ext hO hw1)
  have FR := Lib.hid (fun j (hj : j < fs.length) w' (h : Ext W w') => show Trk.At w' gb (j * 3) (fx fs j) from (hF j hj).1.ext (hw1.trans h))
  replace hx := Lib.hid (hx.trans hw1)
  have HN := Lib.hid h9
  have H41 := Lib.hid h41
  have XW := Lib.hid (Ext.refl W)
  clear HB g hl hFit hO hM hw1 hF hI hFx h9 h41
  have K1 := Lib.hid (fun t w' (h : Mks w' ao ms) (h2 : Fxs w' (some ⟨gb, 0, none⟩) fs) => inZoneAt_impl l k ao mc ms q (some ⟨gb, 0, none⟩) tc fs t w' h h2 htc)
  have K2 := Lib.hid (fun w' (h : Mks w' ao ms) (h2 : Fxs w' (some ⟨gb, 0, none⟩) fs) => inZoneAt_spec l k ao mc ms q (some ⟨gb, 0, none⟩) tc fs p w' h h2)
  have K3 := Lib.hid (fun w' (h : Mks w' ao ms) (h2 : Fxs w' (some ⟨gb, 0, none⟩) fs) => distanceToMark_impl l k ao mc ms q (some ⟨gb, 0, none⟩) tc fs p w' h h2 htc)
  have K4 := Lib.hid (fun w' (h : Mks w' ao ms) (h2 : Fxs w' (some ⟨gb, 0, none⟩) fs) => lengthsToMark_impl l k ao mc ms q (some ⟨gb, 0, none⟩) tc fs p 7 w' h h2 htc)
  have K5 := Lib.hid (fun w' (h : Mks w' ao ms) (h2 : Fxs w' (some ⟨gb, 0, none⟩) fs) => position_impl (some ⟨gb, 0, none⟩) tc fs p w' h2 htc)
  have K6 := Lib.hid (fun w' (h : Mks w' ao ms) (h2 : Fxs w' (some ⟨gb, 0, none⟩) fs) => legsInZone_impl l k ao mc ms q (some ⟨gb, 0, none⟩) tc fs w' h h2)
  obtain ⟨⟨i0, i1, i2, i3, i4, i5, i6, i7, i8⟩, _⟩ := Box.nine CB.out
  have it := (TB.out 0 _ rfl).1
  go_wp2_with fail
  rw [← hW]
  clear hW
  refine (K1.out p _ HM.out HF.out).mono ?_
  rintro e w2 ⟨rfl, hy⟩
  replace CB := Lib.hid (CB.out.ext hy); replace TB := Lib.hid (TB.out.ext hy); replace HM := Lib.hid (HM.out.ext hy); replace HF := Lib.hid (HF.out.ext hy); replace hx := Lib.hid (hx.out.trans hy); replace OO := Lib.hid (OwnM.ext OO.out hy); replace XW := Lib.hid (XW.out.trans hy)
  clear hy i0 i1 i2 i3 i4 i5 i6 i7 i8 it
  obtain ⟨⟨i0, i1, i2, i3, i4, i5, i6, i7, i8⟩, _⟩ := Box.nine CB.out
  have it := (TB.out 0 _ rfl).1
  go_wp2_with fail
  refine (K2.out _ HM.out HF.out).mono ?_
  rintro e w3 ⟨rfl, hy⟩
  replace CB := Lib.hid (CB.out.ext hy); replace TB := Lib.hid (TB.out.ext hy); replace HM := Lib.hid (HM.out.ext hy); replace HF := Lib.hid (HF.out.ext hy); replace hx := Lib.hid (hx.out.trans hy); replace OO := Lib.hid (OwnM.ext OO.out hy); replace XW := Lib.hid (XW.out.trans hy)
  clear hy K2 i0 i1 i2 i3 i4 i5 i6 i7 i8 it
  obtain ⟨⟨i0, i1, i2, i3, i4, i5, i6, i7, i8⟩, _⟩ := Box.nine CB.out
  have it := (TB.out 0 _ rfl).1
  by_cases hk0 : zaC l k ms fs q p = 0
  rotate_left
  · have z1 : (zaC l k ms fs q p != 0) = true := by simp [hk0]
    clear hk0 K1 K3 K4 K5 K6 FR
    generalize zaC l k ms fs q p = ck at *
    generalize zaV l k ms fs q p = vk at *
    go_wp2
    go_ret
    exact ⟨rfl, hx.out⟩
  obtain ⟨i, rfl⟩ : ∃ i : Nat, q = i := ⟨q.toNat, by have := (mf_zero (za_zero hk0).1).2.2.1; omega⟩
  obtain ⟨D, S, ZZ⟩ := zn_facts hk0
  rw [hk0]
  rw [hk0, ZZ.eD] at K3
  rw [ZZ.lc, ZZ.lv] at K4
  rw [ZZ.cp] at K5
  have hi := ZZ.hi
  have SQ := Lib.hid (fun w' => sq_in ZZ.pt ZZ.pm w')
  rw [ZZ.eS] at SQ
  have EV := Lib.hid ZZ.ev
  have D0 := ZZ.D0
  have D1 := ZZ.D1
  have ZZ := Lib.hid ZZ
  clear hk0
  generalize zaV l k ms fs i p = vk at *
  generalize poX fs p = xk at *
  generalize poY fs p = yk at *
  go_wp2_with fail
  refine (K3.out _ HM.out HF.out).mono ?_
  rintro e w4 ⟨rfl, hy⟩
  replace CB := Lib.hid (CB.out.ext hy); replace TB := Lib.hid (TB.out.ext hy); replace HM := Lib.hid (HM.out.ext hy); replace HF := Lib.hid (HF.out.ext hy); replace hx := Lib.hid (hx.out.trans hy); replace OO := Lib.hid (OwnM.ext OO.out hy); replace XW := Lib.hid (XW.out.trans hy)
  clear hy K3 i0 i1 i2 i3 i4 i5 i6 i7 i8 it
  obtain ⟨⟨i0, i1, i2, i3, i4, i5, i6, i7, i8⟩, _⟩ := Box.nine CB.out
  have it := (TB.out 0 _ rfl).1
  go_wp2_with fail
  refine (K4.out _ HM.out HF.out).mono ?_
  rintro e w5 ⟨rfl, hy⟩
  replace CB := Lib.hid (CB.out.ext hy); replace TB := Lib.hid (TB.out.ext hy); replace HM := Lib.hid (HM.out.ext hy); replace HF := Lib.hid (HF.out.ext hy); replace hx := Lib.hid (hx.out.trans hy); replace OO := Lib.hid (OwnM.ext OO.out hy); replace XW := Lib.hid (XW.out.trans hy)
  clear hy K4 i0 i1 i2 i3 i4 i5 i6 i7 i8 it
  obtain ⟨⟨i0, i1, i2, i3, i4, i5, i6, i7, i8⟩, _⟩ := Box.nine CB.out
  have it := (TB.out 0 _ rfl).1
  go_wp2_with fail
  refine (K5.out _ HM.out HF.out).mono ?_
  rintro e w6 ⟨rfl, hy⟩
  obtain ⟨W6, hW6⟩ : ∃ W6, W6 = w6.alloc (.cells #[.int .i64 xk, .int .i64 yk] 25) := ⟨_, rfl⟩
  have h6 : Ext w6 W6 := hW6 ▸ (Ext.refl w6).alloc _
  have P15 := Lib.hid (show Box W6 w6.heap.size [.int .i64 xk, .int .i64 yk] from hW6 ▸ Box.new2 rfl)
  replace hy := hy.trans h6
  replace CB := Lib.hid (CB.out.ext hy); replace TB := Lib.hid (TB.out.ext hy); replace HM := Lib.hid (HM.out.ext hy); replace HF := Lib.hid (HF.out.ext hy); replace hx := Lib.hid (hx.out.trans hy); replace OO := Lib.hid (OwnM.ext OO.out hy); replace XW := Lib.hid (XW.out.trans hy)
  clear hy h6 K5 i0 i1 i2 i3 i4 i5 i6 i7 i8 it
  go_upto_region 13 with fail
  rw [← hW6]
  clear hW6
  obtain ⟨qm, rfl, hqm, hOm⟩ : ∃ qm, ao = some ⟨qm, 0, none⟩ ∧ w.heap.size ≤ qm ∧ Crs.Own W6 qm ms := by
    rcases OO.out.cases with ⟨hv, e⟩ | ⟨q', cap', hv, hq', hO', -⟩
    · rw [e] at hi; simp at hi
    · simp at hv; exact ⟨q', hv.1, hq', hO'⟩
  obtain ⟨⟨_, m1, m2, _, m4⟩, _⟩ := hOm i hi
  obtain ⟨⟨a0, a1⟩, _⟩ := P15.out.two
  have i8 := (CB.out 8 _ rfl).1
  have q0 : (0 : Int) ≤ (i : Int) := by omega
  have q1 : (i : Int) < (ms.length : Int) := by omega
  have M4 := Lib.hid m4
  have e0 : ∀ w', Ext W6 w' → w'.cell? ⟨w6.heap.size, 0, none⟩ = some (.int .i64 xk) := fun w' h => h.cellOf a0
  have e1 : ∀ w', Ext W6 w' → w'.cell? ⟨w6.heap.size, 1, none⟩ = some (.int .i64 yk) := fun w' h => h.cellOf a1
  have e8 : ∀ w', Ext W6 w' → w'.cell? ⟨w1.heap.size, 8, none⟩ = some (.slice (some ⟨qm, 0, none⟩) ms.length mc) := fun w' h => h.cellOf i8
  have k1 : ∀ w', Ext W6 w' → w'.cell? ⟨qm, i * 5 + 1, none⟩ = some (.int .i64 (mk ms i).x) := fun w' h => h.cellOf m1
  have k2 : ∀ w', Ext W6 w' → w'.cell? ⟨qm, i * 5 + 2, none⟩ = some (.int .i64 (mk ms i).y) := fun w' h => h.cellOf m2
  clear hOm P15 i8 m1 m2 m4 OO a0 a1
  refine wp_region_held_drew (S := (fun w' => Ext W6 w')) (by kernel_rfl) (by (try dsimp only); first | go_keep | exact (Ext.refl _).drew | exact Res.new2.drew | exact Res.new4.drew | exact ResB.drew (by assumption) | exact ResC.drew (by assumption) | assumption | exact Ext.drew (by assumption) | exact Res.drew (by assumption)) (fun hHeld => ?_)
  (refine Ord.k 0 83 (v := ?_) ?_ ?_; rotate_left; (intro w h; (try dsimp only at h); go_simp; (try with_reducible rfl)); (try simp only [Act.put, Ord.a, Ord.b, Ord.c]))
  (refine Ord.k 1 84 (v := ?_) ?_ ?_; rotate_left; (intro w h; (try dsimp only at h); go_simp; (try with_reducible rfl)); (try simp only [Act.put, Ord.a, Ord.b, Ord.c]))
  (refine Ord.k 2 85 (v := ?_) ?_ ?_; rotate_left; (intro w h; (try dsimp only at h); go_simp; (try with_reducible rfl)); (try simp only [Act.put, Ord.a, Ord.b, Ord.c]))
  (refine Ord.k 3 86 (v := ?_) ?_ ?_; rotate_left; (intro w h; (try dsimp only at h); go_simp; (try with_reducible rfl)); (try simp only [Act.put, Ord.a, Ord.b, Ord.c]))
  (refine Ord.k 4 87 (v := ?_) ?_ ?_; rotate_left; (intro w h; (try dsimp only at h); go_simp; (try with_reducible rfl)); (try simp only [Act.put, Ord.a, Ord.b, Ord.c]))
  (refine Ord.k 5 88 (v := ?_) ?_ ?_; rotate_left; (intro w h; (try dsimp only at h); go_simp; (try with_reducible rfl)); (try simp only [Act.put, Ord.a, Ord.b, Ord.c]))
  (refine Ord.k 6 89 (v := ?_) ?_ ?_; rotate_left; (intro w h; (try dsimp only at h); go_simp; (try with_reducible rfl)); (try simp only [Act.put, Ord.a, Ord.b, Ord.c]))
  (refine wpAnyH_ready (rs := [7]) (by kernel_rfl) (by simp) ?_; refine AllReadyH.cons rfl (fun K hK => ?_) AllReadyH.nil; go_simp; (go_at_call 22; refine (SQ.out _).mono ?_; rintro e w7 ⟨rfl, hy⟩); go_wp2_with fail; (refine hK.out _ _ (by first | assumption | exact Ext.trans (by assumption) hy | exact Res.ext (by assumption) hy | exact ResB.ext (by assumption) hy | exact ResC.ext (by assumption) hy | (go_split_ands; (repeat' apply And.intro) <;> exact Ext.cellOf hy (by assumption))) (fun hHeld => ?_)); clear hK K; (try simp only [Act.put, Ord.a, Ord.b, Ord.c]))
  (refine Ord.k 8 82 (v := ?_) ?_ ?_; rotate_left; (intro w h; (try dsimp only at h); go_simp; (try with_reducible rfl)); (try simp only [Act.put, Ord.a, Ord.b, Ord.c]))
  (refine Ord.k 9 91 (v := ?_) ?_ ?_; rotate_left; (intro w h; (try dsimp only at h); go_simp; (try with_reducible rfl)); (try simp only [Act.put, Ord.a, Ord.b, Ord.c]))
  (refine Ord.k 10 92 (v := ?_) ?_ ?_; rotate_left; (intro w h; (try dsimp only at h); go_simp; (try with_reducible rfl)); (try simp only [Act.put, Ord.a, Ord.b, Ord.c]))
  (refine Ord.k 11 17 (v := ?_) ?_ ?_; rotate_left; (intro w h; (try dsimp only at h); go_simp; (try with_reducible rfl)); (try simp only [Act.put, Ord.a, Ord.b, Ord.c]))
  (refine Ord.k 12 18 (v := ?_) ?_ ?_; rotate_left; (intro w h; (try dsimp only at h); go_simp; (try with_reducible rfl)); (try simp only [Act.put, Ord.a, Ord.b, Ord.c]))
  refine wpAnyH_done (by kernel_rfl) ?_ _
  have hy : Ext W6 w7 := by assumption
  clear e0 e1 e8 k1 k2 SQ hHeld
  replace CB := Lib.hid (CB.out.ext hy); replace TB := Lib.hid (TB.out.ext hy); replace HM := Lib.hid (HM.out.ext hy); replace HF := Lib.hid (HF.out.ext hy); replace hx := Lib.hid (hx.out.trans hy); replace XW := Lib.hid (XW.out.trans hy)
  have m4 := hy.cellOf M4.out
  clear hy M4
  have i8 := (CB.out 8 _ rfl).1
  obtain ⟨Z, hZ⟩ : ∃ Z, Z = (mk ms i).z := ⟨_, rfl⟩
  have b1 : 1 ≤ Z := by rw [hZ]; exact ZZ.out.z1
  have b2 : Z ≤ 5000 := by rw [hZ]; exact ZZ.out.z2
  have EV2 := EV.out
  rw [← hZ] at m4 EV2
  have e8 : ∀ w', Ext w7 w' → w'.cell? ⟨w1.heap.size, 8, none⟩ = some (.slice (some ⟨qm, 0, none⟩) ms.length mc) := fun w' h => h.cellOf i8
  have k4 : ∀ w', Ext w7 w' → w'.cell? ⟨qm, i * 5 + 4, none⟩ = some (.int .i64 Z) := fun w' h => h.cellOf m4
  have lo := ZZ.out.lo
  have up := ZZ.out.up
  have hDD : D * D ≤ 8000000000000 := by have := ZZ.out.S1; omega
  have hDD0 : 0 ≤ D * D := Int.mul_nonneg D0 D0
  have hD2 : (D + 1) * (D + 1) = D * D + 2 * D + 1 := by grind
  have hZZ : 0 ≤ Z * Z ∧ Z * Z ≤ 25000000 := ⟨Int.mul_nonneg (by omega) (by omega), Int.mul_le_mul b2 b2 (by omega) (by omega)⟩
  have T1 : IntKind.i64.wrap (D * D) = D * D := IntWalk.i64_in _ (by omega)
  have T2 : IntKind.i64.wrap (D + 1) = D + 1 := IntWalk.i64_in _ (by omega)
  have T3 : IntKind.i64.wrap ((D + 1) * (D + 1)) = (D + 1) * (D + 1) := IntWalk.i64_in _ (by omega)
  have T4 : IntKind.i64.wrap (Z * Z) = Z * Z := IntWalk.i64_in _ (by omega)
  have g1 : decide (S < D * D) = false := decide_eq_false (by omega)
  have g2 : decide ((D + 1) * (D + 1) ≤ S) = false := decide_eq_false (by omega)
  obtain ⟨V1, V2⟩ := Gcd.div_bd D0 (show (1 : Int) ≤ 7 by omega)
  have T5 : Int.tdiv D 7 = D / 7 := Int.tdiv_eq_ediv_of_nonneg D0
  have T6 : IntKind.i64.wrap (D / 7) = D / 7 := IntWalk.i64_in _ (by omega)
  clear lo up hDD hDD0 hD2 hZZ i8 m4 b1 b2 hZ
  subst EV2
  go_upto_region 14 with fail
  refine wp_region_held_drew (S := (fun w' => Ext w7 w')) (by kernel_rfl) (by (try dsimp only); first | go_keep | exact (Ext.refl _).drew | exact Res.new2.drew | exact Res.new4.drew | exact ResB.drew (by assumption) | exact ResC.drew (by assumption) | assumption | exact Ext.drew (by assumption) | exact Res.drew (by assumption)) (fun hHeld => ?_)
  (refine Ord.k 0 93 (v := ?_) ?_ ?_; rotate_left; (intro w h; (try dsimp only at h); go_simp; (try with_reducible rfl)); (try simp only [Act.put, Ord.a, Ord.b, Ord.c]))
  (refine Ord.k 1 94 (v := ?_) ?_ ?_; rotate_left; (intro w h; (try dsimp only at h); go_simp; (try with_reducible rfl)); (try simp only [Act.put, Ord.a, Ord.b, Ord.c]))
  (refine Ord.k 2 95 (v := ?_) ?_ ?_; rotate_left; (intro w h; (try dsimp only at h); go_simp; (try with_reducible rfl)); (try simp only [Act.put, Ord.a, Ord.b, Ord.c]))
  (refine Ord.k 3 96 (v := ?_) ?_ ?_; rotate_left; (intro w h; (try dsimp only at h); go_simp; (try with_reducible rfl)); (try simp only [Act.put, Ord.a, Ord.b, Ord.c]))
  (refine Ord.k 4 97 (v := ?_) ?_ ?_; rotate_left; (intro w h; (try dsimp only at h); go_simp; (try with_reducible rfl)); (try simp only [Act.put, Ord.a, Ord.b, Ord.c]))
  (refine Ord.k 5 98 (v := ?_) ?_ ?_; rotate_left; (intro w h; (try dsimp only at h); go_simp; (try with_reducible rfl)); (try simp only [Act.put, Ord.a, Ord.b, Ord.c]))
  (refine Ord.k 6 99 (v := ?_) ?_ ?_; rotate_left; (intro w h; (try dsimp only at h); go_simp; (try with_reducible rfl)); (try simp only [Act.put, Ord.a, Ord.b, Ord.c]))
  (refine Ord.k 7 100 (v := ?_) ?_ ?_; rotate_left; (intro w h; (try dsimp only at h); go_simp; (try with_reducible rfl)); (try simp only [Act.put, Ord.a, Ord.b, Ord.c]))
  (refine Ord.k 8 101 (v := ?_) ?_ ?_; rotate_left; (intro w h; (try dsimp only at h); go_simp; (try with_reducible rfl)); (try simp only [Act.put, Ord.a, Ord.b, Ord.c]))
  (first | (refine Ord.s 9 102 ?_ ?_; rfl; (try simp only [Act.put, Ord.a, Ord.b, Ord.c])) | (refine Ord.k 9 102 (v := ?_) ?_ ?_; rotate_left; (intro w h; (try dsimp only at h); go_simp; (try with_reducible rfl)); (try simp only [Act.put, Ord.a, Ord.b, Ord.c])))
  (first | (refine Ord.s 10 103 ?_ ?_; rfl; (try simp only [Act.put, Ord.a, Ord.b, Ord.c])) | (refine Ord.k 10 103 (v := ?_) ?_ ?_; rotate_left; (intro w h; (try dsimp only at h); go_simp; (try with_reducible rfl)); (try simp only [Act.put, Ord.a, Ord.b, Ord.c])))
  (first | (refine Ord.s 11 104 ?_ ?_; rfl; (try simp only [Act.put, Ord.a, Ord.b, Ord.c])) | (refine Ord.k 11 104 (v := ?_) ?_ ?_; rotate_left; (intro w h; (try dsimp only at h); go_simp; (try with_reducible rfl)); (try simp only [Act.put, Ord.a, Ord.b, Ord.c])))
  (first | (refine Ord.s 12 105 ?_ ?_; rfl; (try simp only [Act.put, Ord.a, Ord.b, Ord.c])) | (refine Ord.k 12 105 (v := ?_) ?_ ?_; rotate_left; (intro w h; (try dsimp only at h); go_simp; (try with_reducible rfl)); (try simp only [Act.put, Ord.a, Ord.b, Ord.c])))
  (first | (refine Ord.s 13 106 ?_ ?_; rfl; (try simp only [Act.put, Ord.a, Ord.b, Ord.c])) | (refine Ord.k 13 106 (v := ?_) ?_ ?_; rotate_left; (intro w h; (try dsimp only at h); go_simp; (try with_reducible rfl)); (try simp only [Act.put, Ord.a, Ord.b, Ord.c])))
  (refine Ord.k 14 107 (v := ?_) ?_ ?_; rotate_left; (intro w h; (try dsimp only at h); go_simp; (try with_reducible rfl)); (try simp only [Act.put, Ord.a, Ord.b, Ord.c]))
  (refine Ord.k 15 108 (v := ?_) ?_ ?_; rotate_left; (intro w h; (try dsimp only at h); go_simp; (try with_reducible rfl)); (try simp only [Act.put, Ord.a, Ord.b, Ord.c]))
  (first | (refine Ord.s 16 109 ?_ ?_; rfl; (try simp only [Act.put, Ord.a, Ord.b, Ord.c])) | (refine Ord.k 16 109 (v := ?_) ?_ ?_; rotate_left; (intro w h; (try dsimp only at h); go_simp; (try with_reducible rfl)); (try simp only [Act.put, Ord.a, Ord.b, Ord.c])))
  (first | (refine Ord.s 17 110 ?_ ?_; rfl; (try simp only [Act.put, Ord.a, Ord.b, Ord.c])) | (refine Ord.k 17 110 (v := ?_) ?_ ?_; rotate_left; (intro w h; (try dsimp only at h); go_simp; (try with_reducible rfl)); (try simp only [Act.put, Ord.a, Ord.b, Ord.c])))
  (first | (refine Ord.s 18 111 ?_ ?_; rfl; (try simp only [Act.put, Ord.a, Ord.b, Ord.c])) | (refine Ord.k 18 111 (v := ?_) ?_ ?_; rotate_left; (intro w h; (try dsimp only at h); go_simp; (try with_reducible rfl)); (try simp only [Act.put, Ord.a, Ord.b, Ord.c])))
  (first | (refine Ord.s 19 112 ?_ ?_; rfl; (try simp only [Act.put, Ord.a, Ord.b, Ord.c])) | (refine Ord.k 19 112 (v := ?_) ?_ ?_; rotate_left; (intro w h; (try dsimp only at h); go_simp; (try with_reducible rfl)); (try simp only [Act.put, Ord.a, Ord.b, Ord.c])))
  (first | (refine Ord.s 20 113 ?_ ?_; rfl; (try simp only [Act.put, Ord.a, Ord.b, Ord.c])) | (refine Ord.k 20 113 (v := ?_) ?_ ?_; rotate_left; (intro w h; (try dsimp only at h); go_simp; (try with_reducible rfl)); (try simp only [Act.put, Ord.a, Ord.b, Ord.c])))
  (first | (refine Ord.s 21 114 ?_ ?_; rfl; (try simp only [Act.put, Ord.a, Ord.b, Ord.c])) | (refine Ord.k 21 114 (v := ?_) ?_ ?_; rotate_left; (intro w h; (try dsimp only at h); go_simp; (try with_reducible rfl)); (try simp only [Act.put, Ord.a, Ord.b, Ord.c])))
  (first | (refine Ord.s 22 115 ?_ ?_; rfl; (try simp only [Act.put, Ord.a, Ord.b, Ord.c])) | (refine Ord.k 22 115 (v := ?_) ?_ ?_; rotate_left; (intro w h; (try dsimp only at h); go_simp; (try with_reducible rfl)); (try simp only [Act.put, Ord.a, Ord.b, Ord.c])))
  (refine Ord.k 23 116 (v := ?_) ?_ ?_; rotate_left; (intro w h; (try dsimp only at h); go_simp; (try with_reducible rfl)); (try simp only [Act.put, Ord.a, Ord.b, Ord.c]))
  (refine Ord.k 24 117 (v := ?_) ?_ ?_; rotate_left; (intro w h; (try dsimp only at h); go_simp; (try with_reducible rfl)); (try simp only [Act.put, Ord.a, Ord.b, Ord.c]))
  (first | (refine Ord.s 25 118 ?_ ?_; rfl; (try simp only [Act.put, Ord.a, Ord.b, Ord.c])) | (refine Ord.k 25 118 (v := ?_) ?_ ?_; rotate_left; (intro w h; (try dsimp only at h); go_simp; (try with_reducible rfl)); (try simp only [Act.put, Ord.a, Ord.b, Ord.c])))
  (first | (refine Ord.s 26 119 ?_ ?_; rfl; (try simp only [Act.put, Ord.a, Ord.b, Ord.c])) | (refine Ord.k 26 119 (v := ?_) ?_ ?_; rotate_left; (intro w h; (try dsimp only at h); go_simp; (try with_reducible rfl)); (try simp only [Act.put, Ord.a, Ord.b, Ord.c])))
  (first | (refine Ord.s 27 120 ?_ ?_; rfl; (try simp only [Act.put, Ord.a, Ord.b, Ord.c])) | (refine Ord.k 27 120 (v := ?_) ?_ ?_; rotate_left; (intro w h; (try dsimp only at h); go_simp; (try with_reducible rfl)); (try simp only [Act.put, Ord.a, Ord.b, Ord.c])))
  (first | (refine Ord.s 28 121 ?_ ?_; rfl; (try simp only [Act.put, Ord.a, Ord.b, Ord.c])) | (refine Ord.k 28 121 (v := ?_) ?_ ?_; rotate_left; (intro w h; (try dsimp only at h); go_simp; (try with_reducible rfl)); (try simp only [Act.put, Ord.a, Ord.b, Ord.c])))
  (refine Ord.k 29 122 (v := ?_) ?_ ?_; rotate_left; (intro w h; (try dsimp only at h); go_simp; (try with_reducible rfl)); (try simp only [Act.put, Ord.a, Ord.b, Ord.c]))
  (refine Ord.k 30 123 (v := ?_) ?_ ?_; rotate_left; (intro w h; (try dsimp only at h); go_simp; (try with_reducible rfl)); (try simp only [Act.put, Ord.a, Ord.b, Ord.c]))
  (first | (refine Ord.s 31 124 ?_ ?_; rfl; (try simp only [Act.put, Ord.a, Ord.b, Ord.c])) | (refine Ord.k 31 124 (v := ?_) ?_ ?_; rotate_left; (intro w h; (try dsimp only at h); go_simp; (try with_reducible rfl)); (try simp only [Act.put, Ord.a, Ord.b, Ord.c])))
  (first | (refine Ord.s 32 125 ?_ ?_; rfl; (try simp only [Act.put, Ord.a, Ord.b, Ord.c])) | (refine Ord.k 32 125 (v := ?_) ?_ ?_; rotate_left; (intro w h; (try dsimp only at h); go_simp; (try with_reducible rfl)); (try simp only [Act.put, Ord.a, Ord.b, Ord.c])))
  (first | (refine Ord.s 33 126 ?_ ?_; rfl; (try simp only [Act.put, Ord.a, Ord.b, Ord.c])) | (refine Ord.k 33 126 (v := ?_) ?_ ?_; rotate_left; (intro w h; (try dsimp only at h); go_simp; (try with_reducible rfl)); (try simp only [Act.put, Ord.a, Ord.b, Ord.c])))
  (first | (refine Ord.s 34 127 ?_ ?_; rfl; (try simp only [Act.put, Ord.a, Ord.b, Ord.c])) | (refine Ord.k 34 127 (v := ?_) ?_ ?_; rotate_left; (intro w h; (try dsimp only at h); go_simp; (try with_reducible rfl)); (try simp only [Act.put, Ord.a, Ord.b, Ord.c])))
  (first | (refine Ord.s 35 128 ?_ ?_; rfl; (try simp only [Act.put, Ord.a, Ord.b, Ord.c])) | (refine Ord.k 35 128 (v := ?_) ?_ ?_; rotate_left; (intro w h; (try dsimp only at h); go_simp; (try with_reducible rfl)); (try simp only [Act.put, Ord.a, Ord.b, Ord.c])))
  (first | (refine Ord.s 36 129 ?_ ?_; rfl; (try simp only [Act.put, Ord.a, Ord.b, Ord.c])) | (refine Ord.k 36 129 (v := ?_) ?_ ?_; rotate_left; (intro w h; (try dsimp only at h); go_simp; (try with_reducible rfl)); (try simp only [Act.put, Ord.a, Ord.b, Ord.c])))
  (first | (refine Ord.s 37 130 ?_ ?_; rfl; (try simp only [Act.put, Ord.a, Ord.b, Ord.c])) | (refine Ord.k 37 130 (v := ?_) ?_ ?_; rotate_left; (intro w h; (try dsimp only at h); go_simp; (try with_reducible rfl)); (try simp only [Act.put, Ord.a, Ord.b, Ord.c])))
  (first | (refine Ord.s 38 131 ?_ ?_; rfl; (try simp only [Act.put, Ord.a, Ord.b, Ord.c])) | (refine Ord.k 38 131 (v := ?_) ?_ ?_; rotate_left; (intro w h; (try dsimp only at h); go_simp; (try with_reducible rfl)); (try simp only [Act.put, Ord.a, Ord.b, Ord.c])))
  (first | (refine Ord.s 39 132 ?_ ?_; rfl; (try simp only [Act.put, Ord.a, Ord.b, Ord.c])) | (refine Ord.k 39 132 (v := ?_) ?_ ?_; rotate_left; (intro w h; (try dsimp only at h); go_simp; (try with_reducible rfl)); (try simp only [Act.put, Ord.a, Ord.b, Ord.c])))
  (first | (refine Ord.s 40 133 ?_ ?_; rfl; (try simp only [Act.put, Ord.a, Ord.b, Ord.c])) | (refine Ord.k 40 133 (v := ?_) ?_ ?_; rotate_left; (intro w h; (try dsimp only at h); go_simp; (try with_reducible rfl)); (try simp only [Act.put, Ord.a, Ord.b, Ord.c])))
  (first | (refine Ord.s 41 134 ?_ ?_; rfl; (try simp only [Act.put, Ord.a, Ord.b, Ord.c])) | (refine Ord.k 41 134 (v := ?_) ?_ ?_; rotate_left; (intro w h; (try dsimp only at h); go_simp; (try with_reducible rfl)); (try simp only [Act.put, Ord.a, Ord.b, Ord.c])))
  (first | (refine Ord.s 42 135 ?_ ?_; rfl; (try simp only [Act.put, Ord.a, Ord.b, Ord.c])) | (refine Ord.k 42 135 (v := ?_) ?_ ?_; rotate_left; (intro w h; (try dsimp only at h); go_simp; (try with_reducible rfl)); (try simp only [Act.put, Ord.a, Ord.b, Ord.c])))
  (first | (refine Ord.s 43 136 ?_ ?_; rfl; (try simp only [Act.put, Ord.a, Ord.b, Ord.c])) | (refine Ord.k 43 136 (v := ?_) ?_ ?_; rotate_left; (intro w h; (try dsimp only at h); go_simp; (try with_reducible rfl)); (try simp only [Act.put, Ord.a, Ord.b, Ord.c])))
  (first | (refine Ord.s 44 137 ?_ ?_; rfl; (try simp only [Act.put, Ord.a, Ord.b, Ord.c])) | (refine Ord.k 44 137 (v := ?_) ?_ ?_; rotate_left; (intro w h; (try dsimp only at h); go_simp; (try with_reducible rfl)); (try simp only [Act.put, Ord.a, Ord.b, Ord.c])))
  (first | (refine Ord.s 45 138 ?_ ?_; rfl; (try simp only [Act.put, Ord.a, Ord.b, Ord.c])) | (refine Ord.k 45 138 (v := ?_) ?_ ?_; rotate_left; (intro w h; (try dsimp only at h); go_simp; (try with_reducible rfl)); (try simp only [Act.put, Ord.a, Ord.b, Ord.c])))
  (first | (refine Ord.s 46 139 ?_ ?_; rfl; (try simp only [Act.put, Ord.a, Ord.b, Ord.c])) | (refine Ord.k 46 139 (v := ?_) ?_ ?_; rotate_left; (intro w h; (try dsimp only at h); go_simp; (try with_reducible rfl)); (try simp only [Act.put, Ord.a, Ord.b, Ord.c])))
  (first | (refine Ord.s 47 140 ?_ ?_; rfl; (try simp only [Act.put, Ord.a, Ord.b, Ord.c])) | (refine Ord.k 47 140 (v := ?_) ?_ ?_; rotate_left; (intro w h; (try dsimp only at h); go_simp; (try with_reducible rfl)); (try simp only [Act.put, Ord.a, Ord.b, Ord.c])))
  (refine Ord.k 48 141 (v := ?_) ?_ ?_; rotate_left; (intro w h; (try dsimp only at h); go_simp; (try with_reducible rfl)); (try simp only [Act.put, Ord.a, Ord.b, Ord.c]))
  refine wpAnyH_done (by kernel_rfl) ?_ _
  have HV := Lib.hid hHeld
  clear hHeld e8 k4 g1 g2 T1 T2 T3 T4 T5 T6 V1 V2
  replace CB := Lib.hid (CB.out.ext HV.out); replace TB := Lib.hid (TB.out.ext HV.out); replace HM := Lib.hid (HM.out.ext HV.out); replace HF := Lib.hid (HF.out.ext HV.out); replace hx := Lib.hid (hx.out.trans HV.out); replace XW := Lib.hid (XW.out.trans HV.out)
  obtain ⟨⟨i0, i1, i2, i3, i4, i5, i6, i7, i8⟩, _⟩ := Box.nine CB.out
  have it := (TB.out 0 _ rfl).1
  go_wp2_with fail
  refine (K6.out _ HM.out HF.out).mono ?_
  rintro e w8 ⟨vz, rfl, OZ, hy⟩
  obtain ⟨az, cz, rfl, Z1⟩ := OZ.zxs (by have := lz_len l k ms fs i; unfold maxLen; omega)
  rw [ZZ.out.mc]
  replace Z1 := Lib.hid Z1
  have FX := Lib.hid ZZ.out.fx
  generalize lzZ l k ms fs i = zs at *
  replace CB := Lib.hid (CB.out.ext hy); replace TB := Lib.hid (TB.out.ext hy); replace HM := Lib.hid (HM.out.ext hy); replace HF := Lib.hid (HF.out.ext hy); replace hx := Lib.hid (hx.out.trans hy); replace XW := Lib.hid (XW.out.trans hy)
  clear hy K6 OZ HV i0 i1 i2 i3 i4 i5 i6 i7 i8 it
  have it := (TB.out 0 _ rfl).1
  go_wp2
  go_loopw [21] (fun i wr => RelJ w8 fs.length i wr) (fun i wr => fs.length - (intOf i).toNat)
  case atStart => exact ⟨0, rfl, Nat.zero_le _, Ext.refl _⟩
  case round =>
    obtain ⟨j, rfl, hj, hyy⟩ := hrel
    have HX := Lib.hid hyy
    have btr := hyy.cellOf it
    have hn41 := H41.out
    have T0 : IntKind.i64.wrap ((j : Int) + 1) = ((j + 1 : Nat) : Int) := by rw [IntWalk.i64_in _ (by omega)]; omega
    clear hyy
    by_cases hj1 : j + 1 < fs.length
    · have t1 : decide (((j + 1 : Nat) : Int) < (fs.length : Int)) = true := decide_eq_true (by omega)
      obtain ⟨z0, zv⟩ := FX.out j hj1
      obtain ⟨F, hF⟩ : ∃ F, F = fx fs j := ⟨_, rfl⟩
      obtain ⟨c0, c1, c2⟩ := FR.out j (by omega) wr (XW.out.trans HX.out)
      rw [← hF] at z0 zv c0 c1 c2
      clear hF
      have KD := Lib.hid (fun w' (h : Ext wr w') => K1.out F.t w' (HM.out.ext (HX.out.trans h)) (HF.out.ext (HX.out.trans h)))
      rw [z0] at KD
      generalize zaV l k ms fs i F.t = iv at *
      have k0 : (0 : Int) ≤ (j : Int) := by omega
      have k1 : (j : Int) < (fs.length : Int) := by omega
      have CR := Lib.hid (CB.out.ext HX.out)
      obtain ⟨W9, hW9⟩ : ∃ W9, W9 = wr.alloc (.cells #[.int .i64 F.t, .int .i64 F.x, .int .i64 F.y] 50) := ⟨_, rfl⟩
      have h9 : Ext wr W9 := hW9 ▸ (Ext.refl wr).alloc _
      have FB := (show Box W9 wr.heap.size [.int .i64 F.t, .int .i64 F.x, .int .i64 F.y] from hW9 ▸ Box.new3 rfl)
      have f0 := (FB 0 _ rfl).1
      go_upto_region 21 with fail
      rw [← hW9]
      clear hW9 c0 c1 c2 FB
      have btr9 := h9.cellOf btr
      obtain ⟨⟨n0, n1, n2, n3, n4, n5, n6, n7, n8⟩, _⟩ := Box.nine (CR.out.ext h9)
      go_wp2_with fail
      refine (KD.out _ h9).mono ?_
      rintro e w10 ⟨rfl, hy⟩
      have H10 := Lib.hid (h9.trans hy)
      clear n0 n1 n2 n3 n4 n5 n6 n7 n8 f0 btr9 hy h9
      cases iv
      · go_wp2
        go_roundw
        case rel => exact ⟨j + 1, rfl, by omega, HX.out.trans H10.out⟩
        case measure => simp [intOf]; omega
      · have HI := Lib.hid (show decide ((j : Int) ∈ zs) = true from decide_eq_true (zv rfl))
        have KH := Lib.hid (hasInt_any az cz zs j w10 (Z1.out.ext (HX.out.trans H10.out)))
        rw [HI.out] at KH
        go_wp2_with fail
        refine KH.out.mono ?_
        rintro e w11 ⟨rfl, hz⟩
        have H11 := Lib.hid (H10.out.trans hz)
        clear hz
        go_wp2
        go_roundw
        case rel => exact ⟨j + 1, rfl, by omega, HX.out.trans H11.out⟩
        case measure => simp [intOf]; omega
    · have t1 : decide (((j + 1 : Nat) : Int) < (fs.length : Int)) = false := decide_eq_false (by omega)
      go_wp2
      go_ret
      exact ⟨rfl, hx.out.trans HX.out⟩
end Go.Proofs.YtplbahdomjeekaaGreat.fnZone
