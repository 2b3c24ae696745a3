import Derived.Test.YtplbahdomjeekaaGreatMDrawZo
import Derived.Test.YtplbahdomjeekaaGreatVisMath
import Derived.Test.YtplbahdomjeekaaGreatBig
import Derived.ChangeOld
import Derived.Below
import Derived.Lib.SmallJoins
namespace Go.Proofs.YtplbahdomjeekaaGreat.fnVisits
open Go.ChangeShapes Go.WideShapes Go.ChangeAt Go.RowKit
open Go.Proofs.YtplbahdomjeekaaGreat.Kit Go.Proofs.YtplbahdomjeekaaGreat.Num Go.Proofs.YtplbahdomjeekaaGreat.Draw Go.Proofs.YtplbahdomjeekaaGreat.Pts Go.Proofs.YtplbahdomjeekaaGreat.Seg Go.Proofs.YtplbahdomjeekaaGreat.Crs Go.Proofs.YtplbahdomjeekaaGreat.Rt
open Go.Proofs.YtplbahdomjeekaaGreat.Trk (F3 Fxs Tr IntRow trB fx)
set_option linter.unusedVariables false
set_option linter.unusedSimpArgs false
def RelO (w : World) (vs : List V2) (o i : Value) (wr : World) : Prop := ∃ j : Nat, i = .int .i64 j ∧ j ≤ vs.length ∧ o = .int .i64 (vsS (vs.take j)) ∧ Ext w wr
def RelI (w : World) (s f l : Int) (o i : Value) (wr : World) : Prop := ∃ x : Int, i = .int .i64 x ∧ f ≤ x ∧ x ≤ l + 1 ∧ o = .int .i64 (s + (x - f)) ∧ Ext w wr
set_option maxRecDepth 100000 in
set_option maxHeartbeats 8000000 in
theorem walk (c0 : Option Addr) (len cap : Nat) (zs : List Int) (w : World) (hr : IsRow .u8 w c0 len cap zs) :
    Calls Tryz.prog 4 #[.slice c0 len cap] w fun e w' => e = .returned (.bool true) ∧ Ext w w' := by
  have HB := Lib.hid hr.bytes
  clear hr
  by_cases hl : 4096 < len
  · have g := show bigB len = true from decide_eq_true hl
    go_enter Tryz.func4, Tryz.ntmps4
    go_wp2_with (go_at_call 15; refine (big_any _ _ _ _).mono ?_; rintro e w' ⟨rfl, rfl⟩)
    go_ret
    exact ⟨rfl, Ext.refl _⟩
  have g := show bigB len = false from decide_eq_false hl
  go_enter Tryz.func4, Tryz.ntmps4
  go_wp2_with fail
  refine (big_any _ _ _ _).mono ?_
  rintro e w' ⟨rfl, rfl⟩
  go_wp2_with fail
  refine (drawVisitsOf_any c0 len cap _ HB.out (by omega)).mono ?_
  rintro e w1 ⟨l, k, v, ms, q, gq, tc, n, rfl, h9, hFit, hO, h41, htc, hI, hx⟩
  obtain ⟨ao, mc, rfl, hM⟩ := hO.mks ⟨by unfold maxLen; omega, hFit⟩
  obtain ⟨fs, rfl, hF⟩ := hI.own
  have hFx := hF.fxs (by unfold maxLen; omega)
  obtain ⟨W, hW⟩ : ∃ W, W = (w1.alloc (.cells (cellsC l k (.slice ao ms.length mc)).toArray 30)).alloc (.cells #[.slice (some ⟨gq, 0, none⟩) fs.length tc] 33) := ⟨_, rfl⟩
  have hw1 : Ext w1 W := hW ▸ ((Ext.refl w1).alloc _).alloc _
  have CB := Lib.hid (show Box W w1.heap.size (cellsC l k (.slice ao ms.length mc)) by rw [hW]; exact (Box.new rfl).alloc _)
  have TB := Lib.hid (show Box W (w1.heap.size + 1) [.slice (some ⟨gq, 0, none⟩) fs.length tc] by rw [hW]; exact Box.new (vs := [.slice (some ⟨gq, 0, none⟩) fs.length tc]) (by simp))
  have HM := Lib.hid (hM.ext hw1)
  have HF := Lib.hid (hFx.ext hw1)
  replace hx := Lib.hid (hx.trans hw1)
  clear HB g hl hFit hO hM hw1 hF hI hFx h9 h41
  have K1 := Lib.hid (fun w' (h : Mks w' ao ms) (h2 : Fxs w' (some ⟨gq, 0, none⟩) fs) => visitsOf_impl l k ao mc ms q (some ⟨gq, 0, none⟩) tc fs w' h h2)
  have K2 := Lib.hid (fun w' (h : Mks w' ao ms) (h2 : Fxs w' (some ⟨gq, 0, none⟩) fs) => visitsOf_spec l k ao mc ms q (some ⟨gq, 0, none⟩) tc fs w' h h2)
  have K3 := Lib.hid (fun w' (h : Mks w' ao ms) (h2 : Fxs w' (some ⟨gq, 0, none⟩) fs) => legsInZone_impl l k ao mc ms q (some ⟨gq, 0, none⟩) tc fs w' h h2)
  obtain ⟨⟨i0, i1, i2, i3, i4, i5, i6, i7, i8⟩, _⟩ := Box.nine CB.out
  have it := (TB.out 0 _ rfl).1
  go_wp2_with fail
  rw [← hW]
  clear hW
  refine (K1.out _ HM.out HF.out).mono ?_
  rintro e w2 ⟨v1, gs1, rfl, R1, hy⟩
  replace CB := Lib.hid (CB.out.ext hy); replace TB := Lib.hid (TB.out.ext hy); replace HM := Lib.hid (HM.out.ext hy); replace HF := Lib.hid (HF.out.ext hy); replace hx := Lib.hid (hx.out.trans hy)
  have R1 := Lib.hid R1
  clear hy K1 i0 i1 i2 i3 i4 i5 i6 i7 i8 it
  obtain ⟨⟨i0, i1, i2, i3, i4, i5, i6, i7, i8⟩, _⟩ := Box.nine CB.out
  have it := (TB.out 0 _ rfl).1
  go_wp2_with fail
  refine (K2.out _ HM.out HF.out).mono ?_
  rintro e w3 ⟨v2, gs2, rfl, R2, hy⟩
  replace CB := Lib.hid (CB.out.ext hy); replace TB := Lib.hid (TB.out.ext hy); replace HM := Lib.hid (HM.out.ext hy); replace HF := Lib.hid (HF.out.ext hy); replace hx := Lib.hid (hx.out.trans hy)
  replace R1 := Lib.hid (R1.out.ext hy)
  have R2 := Lib.hid R2
  clear hy K2 i0 i1 i2 i3 i4 i5 i6 i7 i8 it
  obtain ⟨⟨i0, i1, i2, i3, i4, i5, i6, i7, i8⟩, _⟩ := Box.nine CB.out
  have it := (TB.out 0 _ rfl).1
  by_cases hk0 : mfC l k ms (trB fs) q = 0
  rotate_left
  · have z1 : (mfC l k ms (trB fs) q != 0) = true := by simp [hk0]
    have hv0 := vz_bad hk0
    rw [hv0] at R1 R2
    have KL := Lib.hid (fun a b c1 c2 b1 b2 g1 g2 w' h1 h2 => likeRows_same a b c1 c2 b1 b2 [] g1 g2 w' h1 h2 (by simp))
    obtain ⟨a1, c1, rfl⟩ := R1.out.val
    obtain ⟨a2, c2, rfl⟩ := R2.out.val
    clear hk0 K3 hv0
    generalize mfC l k ms (trB fs) q = ck at *
    go_wp2_with fail
    refine (KL.out _ _ _ _ _ _ _ _ _ R1.out R2.out).mono ?_
    rintro e w4 ⟨rfl, hy⟩
    go_wp2
    go_ret
    exact ⟨rfl, hx.out.trans hy⟩
  obtain ⟨i, rfl⟩ : ∃ i : Nat, q = i := ⟨q.toNat, by have := (mf_zero hk0).2.2.1; omega⟩
  have hv := (mf_zero hk0).2.1
  have hb := tz_bd (m := mk ms i) hv
  have e1 := vz_yes hk0
  have e2 := lz_yes hk0
  have VI := vsI (tz_asc (mk ms i) fs) (tzL (mk ms i) fs).length (Nat.le_refl _)
  have VB := vsN_bd hb.2 (tzL (mk ms i) fs).length (Nat.le_refl _)
  have VL := vsN_len (tzL (mk ms i) fs) (tzL (mk ms i) fs).length
  unfold LzA at K3
  rw [e2, hk0] at K3
  rw [e1] at R1 R2
  rw [hk0]
  clear e1 e2 hk0 hv
  generalize tzL (mk ms i) fs = zs at *
  generalize vsN zs zs.length = vs at *
  have hl39 : vs.length ≤ 39 := by have := hb.1; omega
  have hz39 := hb.1
  have VI := Lib.hid VI
  have VB := Lib.hid VB
  clear VL hb
  obtain ⟨a1, c1, rfl⟩ := R1.out.val
  obtain ⟨a2, c2, rfl⟩ := R2.out.val
  have KL := Lib.hid (fun b1 b2 w' h1 h2 => likeRows_same a1 a2 c1 c2 b1 b2 vs gs1 gs2 w' h1 h2 (by omega))
  go_wp2_with fail
  refine (KL.out _ _ _ R1.out R2.out).mono ?_
  rintro e w4 ⟨rfl, hy⟩
  replace CB := Lib.hid (CB.out.ext hy); replace TB := Lib.hid (TB.out.ext hy); replace HM := Lib.hid (HM.out.ext hy); replace HF := Lib.hid (HF.out.ext hy); replace hx := Lib.hid (hx.out.trans hy)
  replace R2 := Lib.hid (R2.out.ext hy)
  clear hy KL R1 i0 i1 i2 i3 i4 i5 i6 i7 i8 it
  obtain ⟨⟨i0, i1, i2, i3, i4, i5, i6, i7, i8⟩, _⟩ := Box.nine CB.out
  have it := (TB.out 0 _ rfl).1
  go_wp2_with fail
  refine (K3.out _ HM.out HF.out).mono ?_
  rintro e w5 ⟨vz, rfl, OZ, hy⟩
  obtain ⟨az, cz, rfl, Z1⟩ := OZ.zxs (by unfold maxLen; omega)
  replace Z1 := Lib.hid Z1
  replace R2 := Lib.hid (R2.out.ext hy)
  replace hx := Lib.hid (hx.out.trans hy)
  clear hy OZ K3 CB TB HM HF i0 i1 i2 i3 i4 i5 i6 i7 i8 it
  have SM := Lib.hid (fun j => vsS_le (vs := vs) (fun v hv => (VI.out.mem v hv).1) j)
  have SS := Lib.hid VI.out.sum
  go_wp2
  go_loopw [12, 13] (fun o i wr => RelO w5 vs o i wr) (fun _ i _ => vs.length - (intOf i).toNat)
  case atStart => exact ⟨0, rfl, Nat.zero_le _, by simp [vsS], Ext.refl _⟩
  case round =>
    obtain ⟨j, rfl, hj, rfl, hyy⟩ := hrel
    have HX := Lib.hid hyy
    clear hyy
    by_cases hj1 : j < vs.length
    · obtain ⟨bo, rfl, p0, pq⟩ := (R2.out.ext HX.out).rowAt hj1
      have hmem : vx vs j ∈ vs := List.mem_of_getElem? (vx_at hj1)
      obtain ⟨hfl, hin⟩ := VI.out.mem _ hmem
      obtain ⟨vb1, vb2⟩ := VB.out _ hmem
      have st := vsS_take hj1
      obtain ⟨s0, s1⟩ := SM.out j
      have ss := SS.out
      have pf := (pq 0 _ rfl).1
      have pl := (pq 1 _ rfl).1
      obtain ⟨f, hf⟩ : ∃ f, f = (vx vs j).f := ⟨_, rfl⟩
      obtain ⟨l', hl'⟩ : ∃ l', l' = (vx vs j).l := ⟨_, rfl⟩
      have hsep : 0 < j → ∃ q' lp, wr.cell? ⟨bo, j - 1, none⟩ = some (rowV q') ∧ wr.cell? ⟨q', 1, none⟩ = some (.int .i64 lp) ∧ lp + 1 < f ∧ 0 ≤ lp ∧ lp ≤ 1000 := fun h0 => by
        obtain ⟨b', hb', p0', pq'⟩ := (R2.out.ext HX.out).rowAt (show j - 1 < vs.length by omega)
        cases hb'
        have := VI.out.sep (j - 1) (by omega)
        rw [show j - 1 + 1 = j by omega, ← hf] at this
        have hm' : vx vs (j - 1) ∈ vs := List.mem_of_getElem? (vx_at (show j - 1 < vs.length by omega))
        have b' := VB.out _ hm'
        exact ⟨_, _, p0', (pq' 1 _ rfl).1, this, b'.2.1, b'.2.2⟩
      rw [← hf] at pf hfl hin vb1 st
      rw [← hl'] at pl hfl hin vb2 st
      generalize gb gs2 j = q at *
      obtain ⟨s, hs⟩ : ∃ s, s = vsS (vs.take j) := ⟨_, rfl⟩
      rw [← hs] at st s0 s1 ⊢
      have ST := Lib.hid st
      have HIN := Lib.hid hin
      have j0 : (0 : Int) ≤ (j : Int) := by omega
      have j1 : (j : Int) < (vs.length : Int) := by omega
      have T0 : IntKind.i64.wrap ((j : Int) + 1) = (j : Int) + 1 := IntWalk.i64_in _ (by omega)
      have g2 : decide (l' < f) = false := decide_eq_false (by omega)
      have eO : ∀ w', Ext wr w' → w'.cell? ⟨bo, j, none⟩ = some (rowV q) := fun w' h => h.cellOf p0
      have eF : ∀ w', Ext wr w' → w'.cell? ⟨q, 0, none⟩ = some (.int .i64 f) := fun w' h => h.cellOf pf
      have eL : ∀ w', Ext wr w' → w'.cell? ⟨q, 1, none⟩ = some (.int .i64 l') := fun w' h => h.cellOf pl
      clear st hs hf hl' hmem pq hin
      by_cases hj0 : 0 < j
      · obtain ⟨q', lp, p1, p2, hlt, lp0, lp1⟩ := hsep hj0
        have eO' : ∀ w', Ext wr w' → w'.cell? ⟨bo, j - 1, none⟩ = some (rowV q') := fun w' h => h.cellOf p1
        have eL' : ∀ w', Ext wr w' → w'.cell? ⟨q', 1, none⟩ = some (.int .i64 lp) := fun w' h => h.cellOf p2
        have d0 : decide ((0 : Int) < (j : Int)) = true := decide_eq_true (by omega)
        have d0' : decide (0 < j) = true := decide_eq_true hj0
        have T1 : IntKind.i64.wrap ((j : Int) - 1) = (j : Int) - 1 := IntWalk.i64_in _ (by omega)
        have T2 : IntKind.i64.wrap (lp + 1) = lp + 1 := IntWalk.i64_in _ (by omega)
        have T3 : ((j : Int) - 1).toNat = j - 1 := by omega
        have g1 : decide (f ≤ lp + 1) = false := decide_eq_false (by omega)
        have k0 : (0 : Int) ≤ (j : Int) - 1 := by omega
        have k1 : (j : Int) - 1 < (vs.length : Int) := by omega
        have k2 : (1 : Int) ≤ (j : Int) := by omega
        clear p1 p2 hlt hsep
        go_upto_region 15 with fail
        refine wp_region_held_drew (S := (fun w' => Ext wr w')) (by kernel_rfl) (by (try dsimp only); first | go_keep | exact (Ext.refl _).drew | exact Res.new2.drew | exact Res.new4.drew | exact ResB.drew (by assumption) | exact ResC.drew (by assumption) | assumption | exact Ext.drew (by assumption) | exact Res.drew (by assumption)) (fun hHeld => ?_)
        generalize wr.drew = wd at hHeld ⊢
        (refine Ord.k 0 61 (v := ?_) ?_ ?_; rotate_left; (intro w h; (try dsimp only at h); go_simp; (try with_reducible rfl)); (try simp only [Act.put, Ord.a, Ord.b, Ord.c]))
        (refine Ord.k 1 62 (v := ?_) ?_ ?_; rotate_left; (intro w h; (try dsimp only at h); go_simp; (try with_reducible rfl)); (try simp only [Act.put, Ord.a, Ord.b, Ord.c]))
        (refine Ord.k 2 63 (v := ?_) ?_ ?_; rotate_left; (intro w h; (try dsimp only at h); go_simp; (try with_reducible rfl)); (try simp only [Act.put, Ord.a, Ord.b, Ord.c]))
        (first | (refine Ord.s 3 64 ?_ ?_; rfl; (try simp only [Act.put, Ord.a, Ord.b, Ord.c])) | (refine Ord.k 3 64 (v := ?_) ?_ ?_; rotate_left; (intro w h; (try dsimp only at h); go_simp; (try with_reducible rfl)); (try simp only [Act.put, Ord.a, Ord.b, Ord.c])))
        (first | (refine Ord.s 4 65 ?_ ?_; rfl; (try simp only [Act.put, Ord.a, Ord.b, Ord.c])) | (refine Ord.k 4 65 (v := ?_) ?_ ?_; rotate_left; (intro w h; (try dsimp only at h); go_simp; (try with_reducible rfl)); (try simp only [Act.put, Ord.a, Ord.b, Ord.c])))
        (first | (refine Ord.s 5 66 ?_ ?_; rfl; (try simp only [Act.put, Ord.a, Ord.b, Ord.c])) | (refine Ord.k 5 66 (v := ?_) ?_ ?_; rotate_left; (intro w h; (try dsimp only at h); go_simp; (try with_reducible rfl)); (try simp only [Act.put, Ord.a, Ord.b, Ord.c])))
        (first | (refine Ord.s 6 67 ?_ ?_; rfl; (try simp only [Act.put, Ord.a, Ord.b, Ord.c])) | (refine Ord.k 6 67 (v := ?_) ?_ ?_; rotate_left; (intro w h; (try dsimp only at h); go_simp; (try with_reducible rfl)); (try simp only [Act.put, Ord.a, Ord.b, Ord.c])))
        (first | (refine Ord.s 7 68 ?_ ?_; rfl; (try simp only [Act.put, Ord.a, Ord.b, Ord.c])) | (refine Ord.k 7 68 (v := ?_) ?_ ?_; rotate_left; (intro w h; (try dsimp only at h); go_simp; (try with_reducible rfl)); (try simp only [Act.put, Ord.a, Ord.b, Ord.c])))
        (first | (refine Ord.s 8 69 ?_ ?_; rfl; (try simp only [Act.put, Ord.a, Ord.b, Ord.c])) | (refine Ord.k 8 69 (v := ?_) ?_ ?_; rotate_left; (intro w h; (try dsimp only at h); go_simp; (try with_reducible rfl)); (try simp only [Act.put, Ord.a, Ord.b, Ord.c])))
        (first | (refine Ord.s 9 70 ?_ ?_; rfl; (try simp only [Act.put, Ord.a, Ord.b, Ord.c])) | (refine Ord.k 9 70 (v := ?_) ?_ ?_; rotate_left; (intro w h; (try dsimp only at h); go_simp; (try with_reducible rfl)); (try simp only [Act.put, Ord.a, Ord.b, Ord.c])))
        (first | (refine Ord.s 10 71 ?_ ?_; rfl; (try simp only [Act.put, Ord.a, Ord.b, Ord.c])) | (refine Ord.k 10 71 (v := ?_) ?_ ?_; rotate_left; (intro w h; (try dsimp only at h); go_simp; (try with_reducible rfl)); (try simp only [Act.put, Ord.a, Ord.b, Ord.c])))
        (first | (refine Ord.s 11 72 ?_ ?_; rfl; (try simp only [Act.put, Ord.a, Ord.b, Ord.c])) | (refine Ord.k 11 72 (v := ?_) ?_ ?_; rotate_left; (intro w h; (try dsimp only at h); go_simp; (try with_reducible rfl)); (try simp only [Act.put, Ord.a, Ord.b, Ord.c])))
        (first | (refine Ord.s 12 73 ?_ ?_; rfl; (try simp only [Act.put, Ord.a, Ord.b, Ord.c])) | (refine Ord.k 12 73 (v := ?_) ?_ ?_; rotate_left; (intro w h; (try dsimp only at h); go_simp; (try with_reducible rfl)); (try simp only [Act.put, Ord.a, Ord.b, Ord.c])))
        (first | (refine Ord.s 13 74 ?_ ?_; rfl; (try simp only [Act.put, Ord.a, Ord.b, Ord.c])) | (refine Ord.k 13 74 (v := ?_) ?_ ?_; rotate_left; (intro w h; (try dsimp only at h); go_simp; (try with_reducible rfl)); (try simp only [Act.put, Ord.a, Ord.b, Ord.c])))
        (first | (refine Ord.s 14 75 ?_ ?_; rfl; (try simp only [Act.put, Ord.a, Ord.b, Ord.c])) | (refine Ord.k 14 75 (v := ?_) ?_ ?_; rotate_left; (intro w h; (try dsimp only at h); go_simp; (try with_reducible rfl)); (try simp only [Act.put, Ord.a, Ord.b, Ord.c])))
        (first | (refine Ord.s 15 76 ?_ ?_; rfl; (try simp only [Act.put, Ord.a, Ord.b, Ord.c])) | (refine Ord.k 15 76 (v := ?_) ?_ ?_; rotate_left; (intro w h; (try dsimp only at h); go_simp; (try with_reducible rfl)); (try simp only [Act.put, Ord.a, Ord.b, Ord.c])))
        (first | (refine Ord.s 16 77 ?_ ?_; rfl; (try simp only [Act.put, Ord.a, Ord.b, Ord.c])) | (refine Ord.k 16 77 (v := ?_) ?_ ?_; rotate_left; (intro w h; (try dsimp only at h); go_simp; (try with_reducible rfl)); (try simp only [Act.put, Ord.a, Ord.b, Ord.c])))
        (first | (refine Ord.s 17 78 ?_ ?_; rfl; (try simp only [Act.put, Ord.a, Ord.b, Ord.c])) | (refine Ord.k 17 78 (v := ?_) ?_ ?_; rotate_left; (intro w h; (try dsimp only at h); go_simp; (try with_reducible rfl)); (try simp only [Act.put, Ord.a, Ord.b, Ord.c])))
        (refine Ord.k 18 79 (v := ?_) ?_ ?_; rotate_left; (intro w h; (try dsimp only at h); go_simp; (try with_reducible rfl)); (try simp only [Act.put, Ord.a, Ord.b, Ord.c]))
        (refine Ord.k 19 80 (v := ?_) ?_ ?_; rotate_left; (intro w h; (try dsimp only at h); go_simp; (try with_reducible rfl)); (try simp only [Act.put, Ord.a, Ord.b, Ord.c]))
        (first | (refine Ord.s 20 81 ?_ ?_; rfl; (try simp only [Act.put, Ord.a, Ord.b, Ord.c])) | (refine Ord.k 20 81 (v := ?_) ?_ ?_; rotate_left; (intro w h; (try dsimp only at h); go_simp; (try with_reducible rfl)); (try simp only [Act.put, Ord.a, Ord.b, Ord.c])))
        (first | (refine Ord.s 21 82 ?_ ?_; rfl; (try simp only [Act.put, Ord.a, Ord.b, Ord.c])) | (refine Ord.k 21 82 (v := ?_) ?_ ?_; rotate_left; (intro w h; (try dsimp only at h); go_simp; (try with_reducible rfl)); (try simp only [Act.put, Ord.a, Ord.b, Ord.c])))
        (first | (refine Ord.s 22 83 ?_ ?_; rfl; (try simp only [Act.put, Ord.a, Ord.b, Ord.c])) | (refine Ord.k 22 83 (v := ?_) ?_ ?_; rotate_left; (intro w h; (try dsimp only at h); go_simp; (try with_reducible rfl)); (try simp only [Act.put, Ord.a, Ord.b, Ord.c])))
        (first | (refine Ord.s 23 84 ?_ ?_; rfl; (try simp only [Act.put, Ord.a, Ord.b, Ord.c])) | (refine Ord.k 23 84 (v := ?_) ?_ ?_; rotate_left; (intro w h; (try dsimp only at h); go_simp; (try with_reducible rfl)); (try simp only [Act.put, Ord.a, Ord.b, Ord.c])))
        (first | (refine Ord.s 24 85 ?_ ?_; rfl; (try simp only [Act.put, Ord.a, Ord.b, Ord.c])) | (refine Ord.k 24 85 (v := ?_) ?_ ?_; rotate_left; (intro w h; (try dsimp only at h); go_simp; (try with_reducible rfl)); (try simp only [Act.put, Ord.a, Ord.b, Ord.c])))
        (first | (refine Ord.s 25 86 ?_ ?_; rfl; (try simp only [Act.put, Ord.a, Ord.b, Ord.c])) | (refine Ord.k 25 86 (v := ?_) ?_ ?_; rotate_left; (intro w h; (try dsimp only at h); go_simp; (try with_reducible rfl)); (try simp only [Act.put, Ord.a, Ord.b, Ord.c])))
        (first | (refine Ord.s 26 87 ?_ ?_; rfl; (try simp only [Act.put, Ord.a, Ord.b, Ord.c])) | (refine Ord.k 26 87 (v := ?_) ?_ ?_; rotate_left; (intro w h; (try dsimp only at h); go_simp; (try with_reducible rfl)); (try simp only [Act.put, Ord.a, Ord.b, Ord.c])))
        (first | (refine Ord.s 27 88 ?_ ?_; rfl; (try simp only [Act.put, Ord.a, Ord.b, Ord.c])) | (refine Ord.k 27 88 (v := ?_) ?_ ?_; rotate_left; (intro w h; (try dsimp only at h); go_simp; (try with_reducible rfl)); (try simp only [Act.put, Ord.a, Ord.b, Ord.c])))
        (first | (refine Ord.s 28 89 ?_ ?_; rfl; (try simp only [Act.put, Ord.a, Ord.b, Ord.c])) | (refine Ord.k 28 89 (v := ?_) ?_ ?_; rotate_left; (intro w h; (try dsimp only at h); go_simp; (try with_reducible rfl)); (try simp only [Act.put, Ord.a, Ord.b, Ord.c])))
        (first | (refine Ord.s 29 90 ?_ ?_; rfl; (try simp only [Act.put, Ord.a, Ord.b, Ord.c])) | (refine Ord.k 29 90 (v := ?_) ?_ ?_; rotate_left; (intro w h; (try dsimp only at h); go_simp; (try with_reducible rfl)); (try simp only [Act.put, Ord.a, Ord.b, Ord.c])))
        (first | (refine Ord.s 30 91 ?_ ?_; rfl; (try simp only [Act.put, Ord.a, Ord.b, Ord.c])) | (refine Ord.k 30 91 (v := ?_) ?_ ?_; rotate_left; (intro w h; (try dsimp only at h); go_simp; (try with_reducible rfl)); (try simp only [Act.put, Ord.a, Ord.b, Ord.c])))
        (first | (refine Ord.s 31 92 ?_ ?_; rfl; (try simp only [Act.put, Ord.a, Ord.b, Ord.c])) | (refine Ord.k 31 92 (v := ?_) ?_ ?_; rotate_left; (intro w h; (try dsimp only at h); go_simp; (try with_reducible rfl)); (try simp only [Act.put, Ord.a, Ord.b, Ord.c])))
        (first | (refine Ord.s 32 93 ?_ ?_; rfl; (try simp only [Act.put, Ord.a, Ord.b, Ord.c])) | (refine Ord.k 32 93 (v := ?_) ?_ ?_; rotate_left; (intro w h; (try dsimp only at h); go_simp; (try with_reducible rfl)); (try simp only [Act.put, Ord.a, Ord.b, Ord.c])))
        (refine Ord.k 33 94 (v := ?_) ?_ ?_; rotate_left; (intro w h; (try dsimp only at h); go_simp; (try with_reducible rfl)); (try simp only [Act.put, Ord.a, Ord.b, Ord.c]))
        refine wpAnyH_done (by kernel_rfl) ?_ _
        have HD := Lib.hid hHeld
        clear hHeld eO' eL' d0 d0' T1 T2 T3 g1 k0 k1 k2
        replace p0 := HD.out.cellOf p0
        replace pf := HD.out.cellOf pf
        replace pl := HD.out.cellOf pl
        have HXD := Lib.hid (HX.out.trans HD.out)
        clear eO eF eL g2
        go_wp2
        go_loopw [12, 14] (fun o i we => RelI wd s f l' o i we) (fun _ i _ => (l' + 1 - intOf i).toNat)
        case atStart => exact ⟨f, rfl, Int.le_refl _, by omega, by rw [show s + (f - f) = s by omega], Ext.refl _⟩
        case round =>
          obtain ⟨x, rfl, x0, x1, rfl, hw⟩ := hrel
          rename_i we _ _ _
          have HW := Lib.hid hw
          replace p0 := hw.cellOf p0
          replace pl := hw.cellOf pl
          clear hw pf
          by_cases hxl : x ≤ l'
          · have t1 : decide (x ≤ l') = true := decide_eq_true hxl
            have HI := Lib.hid (show decide (x ∈ zs) = true from decide_eq_true (HIN.out x x0 hxl))
            have KH := Lib.hid (fun w' (h : Ext wd w') => hasInt_any az cz zs x w' (Z1.out.ext (HXD.out.trans h)))
            rw [HI.out] at KH
            have T5 : IntKind.i64.wrap (x + 1) = x + 1 := IntWalk.i64_in _ (by omega)
            have T6 : IntKind.i64.wrap (s + (x - f) + 1) = s + (x + 1 - f) := by rw [IntWalk.i64_in _ (by omega)]; omega
            go_wp2_with fail
            refine (KH.out _ HW.out).mono ?_
            rintro e w11 ⟨rfl, hz⟩
            have H11 := Lib.hid (HW.out.trans hz)
            clear hz
            go_wp2
            go_roundw
            case rel => exact ⟨x + 1, rfl, by omega, by omega, rfl, H11.out⟩
            case measure => simp [intOf]; omega
          · have t1 : decide (x ≤ l') = false := decide_eq_false hxl
            obtain rfl : x = l' + 1 := by omega
            go_wp2
            go_roundw
            case rel => exact ⟨j + 1, by go_num, by omega, by rw [ST.out, show s + (l' + 1 - f) = s + (l' - f + 1) by omega], HXD.out.trans HW.out⟩
            case measure => simp [intOf]; omega
      · have d0 : decide ((0 : Int) < (j : Int)) = false := decide_eq_false (by omega)
        have d0' : decide (0 < j) = false := decide_eq_false hj0
        clear hsep
        go_upto_region 15 with fail
        refine wp_region_held_drew (S := (fun w' => Ext wr w')) (by kernel_rfl) (by (try dsimp only); first | go_keep | exact (Ext.refl _).drew | exact Res.new2.drew | exact Res.new4.drew | exact ResB.drew (by assumption) | exact ResC.drew (by assumption) | assumption | exact Ext.drew (by assumption) | exact Res.drew (by assumption)) (fun hHeld => ?_)
        generalize wr.drew = wd at hHeld ⊢
        (refine Ord.k 0 61 (v := ?_) ?_ ?_; rotate_left; (intro w h; (try dsimp only at h); go_simp; (try with_reducible rfl)); (try simp only [Act.put, Ord.a, Ord.b, Ord.c]))
        (refine Ord.k 1 62 (v := ?_) ?_ ?_; rotate_left; (intro w h; (try dsimp only at h); go_simp; (try with_reducible rfl)); (try simp only [Act.put, Ord.a, Ord.b, Ord.c]))
        (refine Ord.k 2 63 (v := ?_) ?_ ?_; rotate_left; (intro w h; (try dsimp only at h); go_simp; (try with_reducible rfl)); (try simp only [Act.put, Ord.a, Ord.b, Ord.c]))
        (first | (refine Ord.s 3 64 ?_ ?_; rfl; (try simp only [Act.put, Ord.a, Ord.b, Ord.c])) | (refine Ord.k 3 64 (v := ?_) ?_ ?_; rotate_left; (intro w h; (try dsimp only at h); go_simp; (try with_reducible rfl)); (try simp only [Act.put, Ord.a, Ord.b, Ord.c])))
        (first | (refine Ord.s 4 65 ?_ ?_; rfl; (try simp only [Act.put, Ord.a, Ord.b, Ord.c])) | (refine Ord.k 4 65 (v := ?_) ?_ ?_; rotate_left; (intro w h; (try dsimp only at h); go_simp; (try with_reducible rfl)); (try simp only [Act.put, Ord.a, Ord.b, Ord.c])))
        (first | (refine Ord.s 5 66 ?_ ?_; rfl; (try simp only [Act.put, Ord.a, Ord.b, Ord.c])) | (refine Ord.k 5 66 (v := ?_) ?_ ?_; rotate_left; (intro w h; (try dsimp only at h); go_simp; (try with_reducible rfl)); (try simp only [Act.put, Ord.a, Ord.b, Ord.c])))
        (first | (refine Ord.s 6 67 ?_ ?_; rfl; (try simp only [Act.put, Ord.a, Ord.b, Ord.c])) | (refine Ord.k 6 67 (v := ?_) ?_ ?_; rotate_left; (intro w h; (try dsimp only at h); go_simp; (try with_reducible rfl)); (try simp only [Act.put, Ord.a, Ord.b, Ord.c])))
        (first | (refine Ord.s 7 68 ?_ ?_; rfl; (try simp only [Act.put, Ord.a, Ord.b, Ord.c])) | (refine Ord.k 7 68 (v := ?_) ?_ ?_; rotate_left; (intro w h; (try dsimp only at h); go_simp; (try with_reducible rfl)); (try simp only [Act.put, Ord.a, Ord.b, Ord.c])))
        (first | (refine Ord.s 8 69 ?_ ?_; rfl; (try simp only [Act.put, Ord.a, Ord.b, Ord.c])) | (refine Ord.k 8 69 (v := ?_) ?_ ?_; rotate_left; (intro w h; (try dsimp only at h); go_simp; (try with_reducible rfl)); (try simp only [Act.put, Ord.a, Ord.b, Ord.c])))
        (first | (refine Ord.s 9 70 ?_ ?_; rfl; (try simp only [Act.put, Ord.a, Ord.b, Ord.c])) | (refine Ord.k 9 70 (v := ?_) ?_ ?_; rotate_left; (intro w h; (try dsimp only at h); go_simp; (try with_reducible rfl)); (try simp only [Act.put, Ord.a, Ord.b, Ord.c])))
        (first | (refine Ord.s 10 71 ?_ ?_; rfl; (try simp only [Act.put, Ord.a, Ord.b, Ord.c])) | (refine Ord.k 10 71 (v := ?_) ?_ ?_; rotate_left; (intro w h; (try dsimp only at h); go_simp; (try with_reducible rfl)); (try simp only [Act.put, Ord.a, Ord.b, Ord.c])))
        (first | (refine Ord.s 11 72 ?_ ?_; rfl; (try simp only [Act.put, Ord.a, Ord.b, Ord.c])) | (refine Ord.k 11 72 (v := ?_) ?_ ?_; rotate_left; (intro w h; (try dsimp only at h); go_simp; (try with_reducible rfl)); (try simp only [Act.put, Ord.a, Ord.b, Ord.c])))
        (first | (refine Ord.s 12 73 ?_ ?_; rfl; (try simp only [Act.put, Ord.a, Ord.b, Ord.c])) | (refine Ord.k 12 73 (v := ?_) ?_ ?_; rotate_left; (intro w h; (try dsimp only at h); go_simp; (try with_reducible rfl)); (try simp only [Act.put, Ord.a, Ord.b, Ord.c])))
        (first | (refine Ord.s 13 74 ?_ ?_; rfl; (try simp only [Act.put, Ord.a, Ord.b, Ord.c])) | (refine Ord.k 13 74 (v := ?_) ?_ ?_; rotate_left; (intro w h; (try dsimp only at h); go_simp; (try with_reducible rfl)); (try simp only [Act.put, Ord.a, Ord.b, Ord.c])))
        (first | (refine Ord.s 14 75 ?_ ?_; rfl; (try simp only [Act.put, Ord.a, Ord.b, Ord.c])) | (refine Ord.k 14 75 (v := ?_) ?_ ?_; rotate_left; (intro w h; (try dsimp only at h); go_simp; (try with_reducible rfl)); (try simp only [Act.put, Ord.a, Ord.b, Ord.c])))
        (first | (refine Ord.s 15 76 ?_ ?_; rfl; (try simp only [Act.put, Ord.a, Ord.b, Ord.c])) | (refine Ord.k 15 76 (v := ?_) ?_ ?_; rotate_left; (intro w h; (try dsimp only at h); go_simp; (try with_reducible rfl)); (try simp only [Act.put, Ord.a, Ord.b, Ord.c])))
        (first | (refine Ord.s 16 77 ?_ ?_; rfl; (try simp only [Act.put, Ord.a, Ord.b, Ord.c])) | (refine Ord.k 16 77 (v := ?_) ?_ ?_; rotate_left; (intro w h; (try dsimp only at h); go_simp; (try with_reducible rfl)); (try simp only [Act.put, Ord.a, Ord.b, Ord.c])))
        (first | (refine Ord.s 17 78 ?_ ?_; rfl; (try simp only [Act.put, Ord.a, Ord.b, Ord.c])) | (refine Ord.k 17 78 (v := ?_) ?_ ?_; rotate_left; (intro w h; (try dsimp only at h); go_simp; (try with_reducible rfl)); (try simp only [Act.put, Ord.a, Ord.b, Ord.c])))
        (refine Ord.k 18 79 (v := ?_) ?_ ?_; rotate_left; (intro w h; (try dsimp only at h); go_simp; (try with_reducible rfl)); (try simp only [Act.put, Ord.a, Ord.b, Ord.c]))
        (refine Ord.k 19 80 (v := ?_) ?_ ?_; rotate_left; (intro w h; (try dsimp only at h); go_simp; (try with_reducible rfl)); (try simp only [Act.put, Ord.a, Ord.b, Ord.c]))
        (first | (refine Ord.s 20 81 ?_ ?_; rfl; (try simp only [Act.put, Ord.a, Ord.b, Ord.c])) | (refine Ord.k 20 81 (v := ?_) ?_ ?_; rotate_left; (intro w h; (try dsimp only at h); go_simp; (try with_reducible rfl)); (try simp only [Act.put, Ord.a, Ord.b, Ord.c])))
        (first | (refine Ord.s 21 82 ?_ ?_; rfl; (try simp only [Act.put, Ord.a, Ord.b, Ord.c])) | (refine Ord.k 21 82 (v := ?_) ?_ ?_; rotate_left; (intro w h; (try dsimp only at h); go_simp; (try with_reducible rfl)); (try simp only [Act.put, Ord.a, Ord.b, Ord.c])))
        (first | (refine Ord.s 22 83 ?_ ?_; rfl; (try simp only [Act.put, Ord.a, Ord.b, Ord.c])) | (refine Ord.k 22 83 (v := ?_) ?_ ?_; rotate_left; (intro w h; (try dsimp only at h); go_simp; (try with_reducible rfl)); (try simp only [Act.put, Ord.a, Ord.b, Ord.c])))
        (first | (refine Ord.s 23 84 ?_ ?_; rfl; (try simp only [Act.put, Ord.a, Ord.b, Ord.c])) | (refine Ord.k 23 84 (v := ?_) ?_ ?_; rotate_left; (intro w h; (try dsimp only at h); go_simp; (try with_reducible rfl)); (try simp only [Act.put, Ord.a, Ord.b, Ord.c])))
        (first | (refine Ord.s 24 85 ?_ ?_; rfl; (try simp only [Act.put, Ord.a, Ord.b, Ord.c])) | (refine Ord.k 24 85 (v := ?_) ?_ ?_; rotate_left; (intro w h; (try dsimp only at h); go_simp; (try with_reducible rfl)); (try simp only [Act.put, Ord.a, Ord.b, Ord.c])))
        (first | (refine Ord.s 25 86 ?_ ?_; rfl; (try simp only [Act.put, Ord.a, Ord.b, Ord.c])) | (refine Ord.k 25 86 (v := ?_) ?_ ?_; rotate_left; (intro w h; (try dsimp only at h); go_simp; (try with_reducible rfl)); (try simp only [Act.put, Ord.a, Ord.b, Ord.c])))
        (first | (refine Ord.s 26 87 ?_ ?_; rfl; (try simp only [Act.put, Ord.a, Ord.b, Ord.c])) | (refine Ord.k 26 87 (v := ?_) ?_ ?_; rotate_left; (intro w h; (try dsimp only at h); go_simp; (try with_reducible rfl)); (try simp only [Act.put, Ord.a, Ord.b, Ord.c])))
        (first | (refine Ord.s 27 88 ?_ ?_; rfl; (try simp only [Act.put, Ord.a, Ord.b, Ord.c])) | (refine Ord.k 27 88 (v := ?_) ?_ ?_; rotate_left; (intro w h; (try dsimp only at h); go_simp; (try with_reducible rfl)); (try simp only [Act.put, Ord.a, Ord.b, Ord.c])))
        (first | (refine Ord.s 28 89 ?_ ?_; rfl; (try simp only [Act.put, Ord.a, Ord.b, Ord.c])) | (refine Ord.k 28 89 (v := ?_) ?_ ?_; rotate_left; (intro w h; (try dsimp only at h); go_simp; (try with_reducible rfl)); (try simp only [Act.put, Ord.a, Ord.b, Ord.c])))
        (first | (refine Ord.s 29 90 ?_ ?_; rfl; (try simp only [Act.put, Ord.a, Ord.b, Ord.c])) | (refine Ord.k 29 90 (v := ?_) ?_ ?_; rotate_left; (intro w h; (try dsimp only at h); go_simp; (try with_reducible rfl)); (try simp only [Act.put, Ord.a, Ord.b, Ord.c])))
        (first | (refine Ord.s 30 91 ?_ ?_; rfl; (try simp only [Act.put, Ord.a, Ord.b, Ord.c])) | (refine Ord.k 30 91 (v := ?_) ?_ ?_; rotate_left; (intro w h; (try dsimp only at h); go_simp; (try with_reducible rfl)); (try simp only [Act.put, Ord.a, Ord.b, Ord.c])))
        (first | (refine Ord.s 31 92 ?_ ?_; rfl; (try simp only [Act.put, Ord.a, Ord.b, Ord.c])) | (refine Ord.k 31 92 (v := ?_) ?_ ?_; rotate_left; (intro w h; (try dsimp only at h); go_simp; (try with_reducible rfl)); (try simp only [Act.put, Ord.a, Ord.b, Ord.c])))
        (first | (refine Ord.s 32 93 ?_ ?_; rfl; (try simp only [Act.put, Ord.a, Ord.b, Ord.c])) | (refine Ord.k 32 93 (v := ?_) ?_ ?_; rotate_left; (intro w h; (try dsimp only at h); go_simp; (try with_reducible rfl)); (try simp only [Act.put, Ord.a, Ord.b, Ord.c])))
        (refine Ord.k 33 94 (v := ?_) ?_ ?_; rotate_left; (intro w h; (try dsimp only at h); go_simp; (try with_reducible rfl)); (try simp only [Act.put, Ord.a, Ord.b, Ord.c]))
        refine wpAnyH_done (by kernel_rfl) ?_ _
        have HD := Lib.hid hHeld
        clear hHeld d0 d0'
        replace p0 := HD.out.cellOf p0
        replace pf := HD.out.cellOf pf
        replace pl := HD.out.cellOf pl
        have HXD := Lib.hid (HX.out.trans HD.out)
        clear eO eF eL g2
        go_wp2
        go_loopw [12, 14] (fun o i we => RelI wd s f l' o i we) (fun _ i _ => (l' + 1 - intOf i).toNat)
        case atStart => exact ⟨f, rfl, Int.le_refl _, by omega, by rw [show s + (f - f) = s by omega], Ext.refl _⟩
        case round =>
          obtain ⟨x, rfl, x0, x1, rfl, hw⟩ := hrel
          rename_i we _ _ _
          have HW := Lib.hid hw
          replace p0 := hw.cellOf p0
          replace pl := hw.cellOf pl
          clear hw pf
          by_cases hxl : x ≤ l'
          · have t1 : decide (x ≤ l') = true := decide_eq_true hxl
            have HI := Lib.hid (show decide (x ∈ zs) = true from decide_eq_true (HIN.out x x0 hxl))
            have KH := Lib.hid (fun w' (h : Ext wd w') => hasInt_any az cz zs x w' (Z1.out.ext (HXD.out.trans h)))
            rw [HI.out] at KH
            have T5 : IntKind.i64.wrap (x + 1) = x + 1 := IntWalk.i64_in _ (by omega)
            have T6 : IntKind.i64.wrap (s + (x - f) + 1) = s + (x + 1 - f) := by rw [IntWalk.i64_in _ (by omega)]; omega
            go_wp2_with fail
            refine (KH.out _ HW.out).mono ?_
            rintro e w11 ⟨rfl, hz⟩
            have H11 := Lib.hid (HW.out.trans hz)
            clear hz
            go_wp2
            go_roundw
            case rel => exact ⟨x + 1, rfl, by omega, by omega, rfl, H11.out⟩
            case measure => simp [intOf]; omega
          · have t1 : decide (x ≤ l') = false := decide_eq_false hxl
            obtain rfl : x = l' + 1 := by omega
            go_wp2
            go_roundw
            case rel => exact ⟨j + 1, by go_num, by omega, by rw [ST.out, show s + (l' + 1 - f) = s + (l' - f + 1) by omega], HXD.out.trans HW.out⟩
            case measure => simp [intOf]; omega
    · obtain rfl : j = vs.length := by omega
      rw [List.take_length, SS.out]
      have zz : ((zs.length : Int) == (zs.length : Int)) = true := by simp
      go_wp2
      go_ret
      exact ⟨rfl, hx.out.trans HX.out⟩
end Go.Proofs.YtplbahdomjeekaaGreat.fnVisits
