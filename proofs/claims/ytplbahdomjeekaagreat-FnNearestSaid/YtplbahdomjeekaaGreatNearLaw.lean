import Derived.Test.YtplbahdomjeekaaGreatMDrawZo
import Derived.Test.YtplbahdomjeekaaGreatZon6
import Derived.Test.YtplbahdomjeekaaGreatZon7
import Derived.Test.YtplbahdomjeekaaGreatZonN
import Derived.Test.YtplbahdomjeekaaGreatMPos
import Derived.Test.YtplbahdomjeekaaGreatBig
import Derived.ChangeOld
import Derived.Below
import Derived.Lib.SmallJoins
namespace Go.Proofs.YtplbahdomjeekaaGreat.fnNearest
open Go.ChangeShapes Go.WideShapes Go.ChangeAt Go.RowKit
open Go.Proofs.YtplbahdomjeekaaGreat.Kit Go.Proofs.YtplbahdomjeekaaGreat.Num Go.Proofs.YtplbahdomjeekaaGreat.Draw Go.Proofs.YtplbahdomjeekaaGreat.Pts Go.Proofs.YtplbahdomjeekaaGreat.Seg Go.Proofs.YtplbahdomjeekaaGreat.Crs Go.Proofs.YtplbahdomjeekaaGreat.Rt Go.Proofs.YtplbahdomjeekaaGreat.Root
open Go.Proofs.YtplbahdomjeekaaGreat.Trk (F3 Fxs Tr IntRow trB fx pkX pkY legOf lastB_fix po_fix po_yes okB_fx fxB_yes)
set_option linter.unusedVariables false
set_option linter.unusedSimpArgs false
theorem rt_mono {a b : Int} (ha : 0 ≤ a) (h : a ≤ b) : rt a ≤ rt b := rt_max (rt_nonneg a) (Int.le_trans (rt_sq ha) h)
theorem sqD_bd {a b p q : Int} (ha : Co a) (hb : Co b) (hp : Co p) (hq : Co q) : 0 ≤ sqD a b p q ∧ sqD a b p q ≤ 8000000000000 := by
  unfold Co at *
  unfold sqD
  have s : ∀ x : Int, -2000000 ≤ x → x ≤ 2000000 → 0 ≤ x * x ∧ x * x ≤ 4000000000000 := fun x h1 h2 => by
    refine ⟨?_, ?_⟩
    · rcases Int.le_total 0 x with h | h
      · exact Int.mul_nonneg h h
      · exact Int.mul_nonneg_of_nonpos_of_nonpos h h
    · rcases Int.le_total 0 x with h | h
      · exact Int.mul_le_mul h2 h2 h (by omega)
      · have := Int.mul_le_mul (show -x ≤ 2000000 by omega) (show -x ≤ 2000000 by omega) (by omega) (by omega)
        rw [Int.neg_mul_neg] at this; exact this
  have h1 := s (p - a) (by omega) (by omega)
  have h2 := s (q - b) (by omega) (by omega)
  omega
theorem nr_facts {l k : L4} {ms : List M5} {fs : List F3} {i : Nat} (h : mfC l k ms (trB fs) i = 0) :
    i < ms.length ∧ ptB (ntX l k ms fs i) (ntY l k ms fs i) = true ∧ ptB (mk ms i).x (mk ms i).y = true ∧
    (0 ≤ sqD (ntX l k ms fs i) (ntY l k ms fs i) (mk ms i).x (mk ms i).y ∧ sqD (ntX l k ms fs i) (ntY l k ms fs i) (mk ms i).x (mk ms i).y ≤ 8000000000000) ∧
    ∀ j, j < fs.length → zaC l k ms fs i (fx fs j).t = 0 ∧ rt (sqD (ntX l k ms fs i) (ntY l k ms fs i) (mk ms i).x (mk ms i).y) ≤ dmV l k ms fs i (fx fs j).t + 2 ∧ 0 ≤ dmV l k ms fs i (fx fs j).t ∧ dmV l k ms fs i (fx fs j).t ≤ 3000000 := by
  obtain ⟨hq, hv, hn0, hn⟩ := mf_zero h
  have hi : i < ms.length := by omega
  obtain ⟨⟨mx, my⟩, _⟩ := mk_yes (cr_mk hq hi)
  obtain ⟨⟨h2, h40⟩, hok⟩ := Trk.trB_yes hv
  have hp : ∀ j, j < fs.length → Co (fx fs j).x ∧ Co (fx fs j).y := fun j hj => (fxB_yes (okB_fx (hok j hj))).2
  obtain ⟨-, eX, eY⟩ := nt_yes h
  rw [eX, eY]
  have hK := nlK_le (mk ms i) fs (fs.length - 2)
  have hK' : ntK (mk ms i) fs + 1 < fs.length := by unfold ntK; omega
  have c1 := hp (ntK (mk ms i) fs) (by omega)
  have c2 := hp (ntK (mk ms i) fs + 1) (by omega)
  have cn : Co (nlX (mk ms i) fs (ntK (mk ms i) fs)) ∧ Co (nlY (mk ms i) fs (ntK (mk ms i) fs)) := np_Co c1.1 c1.2 c2.1 c2.2
  have bd := sqD_bd cn.1 cn.2 mx my
  refine ⟨hi, pt_mk cn.1 cn.2, pt_mk mx my, bd, fun j hj => ?_⟩
  have cj := hp j hj
  have bj := sqD_bd cj.1 cj.2 mx my
  have hl := lastB_fix hv hj
  obtain ⟨z0, -, z2⟩ := za_yes h hl
  obtain ⟨e1, e2, e3⟩ := po_fix hv hj
  obtain ⟨e4, e5⟩ := po_yes e1
  rw [e4] at e2
  rw [e5] at e3
  rw [e2, e3] at z2
  rw [z2]
  have le1 : ∀ g, g ≤ fs.length - 2 → sqD (nlX (mk ms i) fs (ntK (mk ms i) fs)) (nlY (mk ms i) fs (ntK (mk ms i) fs)) (mk ms i).x (mk ms i).y ≤ nlD (mk ms i) fs g := fun g hg => nlK_min (mk ms i) fs (fs.length - 2) g hg
  refine ⟨z0, ?_, rt_nonneg _, ?_⟩
  · by_cases hj2 : j + 1 < fs.length
    · have a := rt_mono bd.1 (le1 j (by omega))
      have d := hp (j + 1) hj2
      have b := (near_ends (p := (mk ms i).x) (q := (mk ms i).y) cj.1 cj.2 d.1 d.2 mx my).1
      unfold nlD nlX nlY at a
      exact Int.le_trans a b
    · have a := rt_mono bd.1 (le1 (j - 1) (by omega))
      have d := hp (j - 1) (by omega)
      have b := (near_ends (p := (mk ms i).x) (q := (mk ms i).y) d.1 d.2 cj.1 cj.2 mx my).2
      unfold nlD nlX nlY at a
      rw [show j - 1 + 1 = j by omega] at a
      exact Int.le_trans a b
  · rcases Int.lt_or_le 3000000 (rt (sqD (fx fs j).x (fx fs j).y (mk ms i).x (mk ms i).y)) with g | g
    · have e := rt_sq bj.1
      have := Int.mul_le_mul (Int.le_of_lt g) (Int.le_of_lt g) (by omega) (rt_nonneg _)
      omega
    · exact g
theorem sq_in {x y u v : Int} (h1 : ptB x y = true) (h2 : ptB u v = true) (w : World) : Calls Tryz.prog 22 #[Pt x y, Pt u v] w fun e w' => e = .returned (.tuple #[.int .i64 (sqD x y u v), .int .i64 0]) ∧ Ext w w' := by
  have := squareDistance_impl x y u v w
  rw [show sdQ x y u v = sqD x y u v from if_pos ⟨h1, h2⟩, show sdC x y u v = 0 from if_pos ⟨h1, h2⟩] at this
  exact this
def RelJ (w : World) (n : Nat) (i : Value) (wr : World) : Prop := ∃ j : Nat, i = .int .i64 j ∧ j ≤ n ∧ Ext w wr
set_option maxRecDepth 100000 in
set_option maxHeartbeats 8000000 in
theorem walk (c0 : Option Addr) (len cap : Nat) (zs : List Int) (w : World) (hr : IsRow .u8 w c0 len cap zs) :
    Calls Tryz.prog 5 #[.slice c0 len cap] w fun e w' => e = .returned (.bool true) ∧ Ext w w' := by
  have HB := Lib.hid hr.bytes
  clear hr
  by_cases hl : 4096 < len
  · have g := show bigB len = true from decide_eq_true hl
    go_enter Tryz.func5, Tryz.ntmps5
    go_wp2_with (go_at_call 15; refine (big_any _ _ _ _).mono ?_; rintro e w' ⟨rfl, rfl⟩)
    go_ret
    exact ⟨rfl, Ext.refl _⟩
  have g := show bigB len = false from decide_eq_false hl
  go_enter Tryz.func5, Tryz.ntmps5
  go_wp2_with fail
  refine (big_any _ _ _ _).mono ?_
  rintro e w' ⟨rfl, rfl⟩
  go_wp2_with fail
  refine (drawNearestOnTrack_any c0 len cap _ HB.out (by omega)).mono ?_
  rintro e w1 ⟨l, k, v, ms, q, gb, tc, n, rfl, h9, hFit, hO, h41, htc, hI, hx⟩
  obtain ⟨ao, mc, rfl, hM⟩ := hO.mks ⟨by unfold maxLen; omega, hFit⟩
  obtain ⟨fs, rfl, hF⟩ := hI.own
  have hFx := hF.fxs (by unfold maxLen; omega)
  obtain ⟨W, hW⟩ : ∃ W, W = (w1.alloc (.cells (cellsC l k (.slice ao ms.length mc)).toArray 30)).alloc (.cells #[.slice (some ⟨gb, 0, none⟩) fs.length tc] 33) := ⟨_, rfl⟩
  have hw1 : Ext w1 W := hW ▸ ((Ext.refl w1).alloc _).alloc _
  have CB := Lib.hid (show Box W w1.heap.size (cellsC l k (.slice ao ms.length mc)) by rw [hW]; exact (Box.new rfl).alloc _)
  have TB := Lib.hid (show Box W (w1.heap.size + 1) [.slice (some ⟨gb, 0, none⟩) fs.length tc] by rw [hW]; exact Box.new (vs := [.slice (some ⟨gb, 0, none⟩) fs.length tc]) (by simp))
  have HM := Lib.hid (hM.ext hw1)
  have HF := Lib.hid (hFx.ext hw1)
  have OO := Lib.hid (OwnM.ext hO hw1)
  have FR := Lib.hid (fun j (hj : j < fs.length) w' (h : Ext W w') => show w'.cell? ⟨gb, j * 3, none⟩ = some (.int .i64 (fx fs j).t) from (hw1.trans h).cellOf (hF j hj).1.1)
  replace hx := Lib.hid (hx.trans hw1)
  have HN := Lib.hid h9
  have H41 := Lib.hid h41
  have XW := Lib.hid (Ext.refl W)
  clear HB g hl hFit hO hM hw1 hF hI hFx h9 h41
  have K1 := Lib.hid (fun w' (h : Mks w' ao ms) (h2 : Fxs w' (some ⟨gb, 0, none⟩) fs) => nearestOnTrack_impl l k ao mc ms q (some ⟨gb, 0, none⟩) tc fs w' h h2)
  have K2 := Lib.hid (fun w' (h : Mks w' ao ms) (h2 : Fxs w' (some ⟨gb, 0, none⟩) fs) => nearestOnTrack_spec l k ao mc ms q (some ⟨gb, 0, none⟩) tc fs w' h h2)
  have K3 := Lib.hid (fun t w' (h : Mks w' ao ms) (h2 : Fxs w' (some ⟨gb, 0, none⟩) fs) => distanceToMark_impl l k ao mc ms q (some ⟨gb, 0, none⟩) tc fs t w' h h2 htc)
  obtain ⟨⟨i0, i1, i2, i3, i4, i5, i6, i7, i8⟩, _⟩ := Box.nine CB.out
  have it := (TB.out 0 _ rfl).1
  go_wp2_with fail
  have eW := hW
  rw [← hW]
  clear hW eW
  refine (K1.out _ HM.out HF.out).mono ?_
  rintro e w2 ⟨rfl, hy⟩
  obtain ⟨W2, hW2⟩ : ∃ W2, W2 = w2.alloc (.cells #[.int .i64 (ntX l k ms fs q), .int .i64 (ntY l k ms fs q)] 25) := ⟨_, rfl⟩
  have h2 : Ext w2 W2 := hW2 ▸ (Ext.refl w2).alloc _
  have P7 := Lib.hid (show Box W2 w2.heap.size [.int .i64 (ntX l k ms fs q), .int .i64 (ntY l k ms fs q)] from hW2 ▸ Box.new2 rfl)
  replace hy := hy.trans h2
  replace CB := Lib.hid (CB.out.ext hy); replace TB := Lib.hid (TB.out.ext hy); replace HM := Lib.hid (HM.out.ext hy); replace HF := Lib.hid (HF.out.ext hy); replace hx := Lib.hid (hx.out.trans hy); replace OO := Lib.hid (OwnM.ext OO.out hy); replace XW := Lib.hid (XW.out.trans hy)
  clear hy h2 K1 i0 i1 i2 i3 i4 i5 i6 i7 i8 it
  obtain ⟨⟨i0, i1, i2, i3, i4, i5, i6, i7, i8⟩, _⟩ := Box.nine CB.out
  have it := (TB.out 0 _ rfl).1
  go_upto_region 5 with fail
  rw [← hW2]
  clear hW2
  go_wp2_with fail
  refine (K2.out _ HM.out HF.out).mono ?_
  rintro e w3 ⟨rfl, hy⟩
  obtain ⟨W3, hW3⟩ : ∃ W3, W3 = w3.alloc (.cells #[.int .i64 (ntX l k ms fs q), .int .i64 (ntY l k ms fs q)] 25) := ⟨_, rfl⟩
  have h2 : Ext w3 W3 := hW3 ▸ (Ext.refl w3).alloc _
  have P10 := Lib.hid (show Box W3 w3.heap.size [.int .i64 (ntX l k ms fs q), .int .i64 (ntY l k ms fs q)] from hW3 ▸ Box.new2 rfl)
  replace hy := hy.trans h2
  replace P7 := Lib.hid (P7.out.ext hy)
  replace CB := Lib.hid (CB.out.ext hy); replace TB := Lib.hid (TB.out.ext hy); replace HM := Lib.hid (HM.out.ext hy); replace HF := Lib.hid (HF.out.ext hy); replace hx := Lib.hid (hx.out.trans hy); replace OO := Lib.hid (OwnM.ext OO.out hy); replace XW := Lib.hid (XW.out.trans hy)
  clear hy h2 K2 i0 i1 i2 i3 i4 i5 i6 i7 i8 it
  go_upto_region 6 with fail
  rw [← hW3]
  clear hW3
  obtain ⟨⟨a0, a1⟩, _⟩ := P7.out.two
  obtain ⟨⟨b0, b1⟩, _⟩ := P10.out.two
  by_cases hk0 : mfC l k ms (trB fs) q = 0
  rotate_left
  · have z1 : (mfC l k ms (trB fs) q != 0) = true := by simp [hk0]
    clear hk0 K3 FR P7 P10
    generalize mfC l k ms (trB fs) q = ck at *
    generalize ntV l k ms fs q = vk at *
    generalize ntX l k ms fs q = xk at *
    generalize ntY l k ms fs q = yk at *
    go_wp2
    go_ret
    exact ⟨rfl, hx.out⟩
  obtain ⟨i, rfl⟩ : ∃ i : Nat, q = i := ⟨q.toNat, by have := (mf_zero hk0).2.2.1; omega⟩
  have NF := Lib.hid (nr_facts hk0)
  rw [hk0]
  have hi := NF.out.1
  have SQ := Lib.hid (fun w' => sq_in NF.out.2.1 NF.out.2.2.1 w')
  have SB := Lib.hid NF.out.2.2.2.1
  have ND := Lib.hid NF.out.2.2.2.2
  clear NF hk0
  generalize ntV l k ms fs i = vk at *
  generalize ntX l k ms fs i = xk at *
  generalize ntY l k ms fs i = yk at *
  obtain ⟨qm, rfl, hqm, hOm⟩ : ∃ qm, ao = some ⟨qm, 0, none⟩ ∧ w.heap.size ≤ qm ∧ Crs.Own W3 qm ms := by
    rcases OO.out.cases with ⟨hv, e⟩ | ⟨q', cap', hv, hq', hO', -⟩
    · rw [e] at hi; simp at hi
    · simp at hv; exact ⟨q', hv.1, hq', hO'⟩
  obtain ⟨⟨_, m1, m2, _, _⟩, _⟩ := hOm i hi
  have i8 := (CB.out 8 _ rfl).1
  have e0 : ∀ w', Ext W3 w' → w'.cell? ⟨w2.heap.size, 0, none⟩ = some (.int .i64 xk) := fun w' h => h.cellOf a0
  have e1 : ∀ w', Ext W3 w' → w'.cell? ⟨w2.heap.size, 1, none⟩ = some (.int .i64 yk) := fun w' h => h.cellOf a1
  have e8 : ∀ w', Ext W3 w' → w'.cell? ⟨w1.heap.size, 8, none⟩ = some (.slice (some ⟨qm, 0, none⟩) ms.length mc) := fun w' h => h.cellOf i8
  have k1 : ∀ w', Ext W3 w' → w'.cell? ⟨qm, i * 5 + 1, none⟩ = some (.int .i64 (mk ms i).x) := fun w' h => h.cellOf m1
  have k2 : ∀ w', Ext W3 w' → w'.cell? ⟨qm, i * 5 + 2, none⟩ = some (.int .i64 (mk ms i).y) := fun w' h => h.cellOf m2
  have q0 : (0 : Int) ≤ (i : Int) := by omega
  have q1 : (i : Int) < (ms.length : Int) := by omega
  clear hOm P7 P10 i8 m1 m2 OO
  go_upto_region 10 with fail
  clear a0 a1 b0 b1
  refine wp_region_held_drew (S := (fun w' => Ext W3 w')) (by kernel_rfl) (by (try dsimp only); first | go_keep | exact (Ext.refl _).drew | exact Res.new2.drew | exact Res.new4.drew | exact ResB.drew (by assumption) | exact ResC.drew (by assumption) | assumption | exact Ext.drew (by assumption) | exact Res.drew (by assumption)) (fun hHeld => ?_)
  (refine Ord.k 0 59 (v := ?_) ?_ ?_; rotate_left; (intro w h; (try dsimp only at h); go_simp; (try with_reducible rfl)); (try simp only [Act.put, Ord.a, Ord.b, Ord.c]))
  (refine Ord.k 1 60 (v := ?_) ?_ ?_; rotate_left; (intro w h; (try dsimp only at h); go_simp; (try with_reducible rfl)); (try simp only [Act.put, Ord.a, Ord.b, Ord.c]))
  (refine Ord.k 2 61 (v := ?_) ?_ ?_; rotate_left; (intro w h; (try dsimp only at h); go_simp; (try with_reducible rfl)); (try simp only [Act.put, Ord.a, Ord.b, Ord.c]))
  (refine Ord.k 3 62 (v := ?_) ?_ ?_; rotate_left; (intro w h; (try dsimp only at h); go_simp; (try with_reducible rfl)); (try simp only [Act.put, Ord.a, Ord.b, Ord.c]))
  (refine Ord.k 4 63 (v := ?_) ?_ ?_; rotate_left; (intro w h; (try dsimp only at h); go_simp; (try with_reducible rfl)); (try simp only [Act.put, Ord.a, Ord.b, Ord.c]))
  (refine Ord.k 5 64 (v := ?_) ?_ ?_; rotate_left; (intro w h; (try dsimp only at h); go_simp; (try with_reducible rfl)); (try simp only [Act.put, Ord.a, Ord.b, Ord.c]))
  (refine Ord.k 6 65 (v := ?_) ?_ ?_; rotate_left; (intro w h; (try dsimp only at h); go_simp; (try with_reducible rfl)); (try simp only [Act.put, Ord.a, Ord.b, Ord.c]))
  (refine wpAnyH_ready (rs := [7]) (by kernel_rfl) (by simp) ?_; refine AllReadyH.cons rfl (fun K hK => ?_) AllReadyH.nil; go_simp; (go_at_call 22; refine (SQ.out _).mono ?_; rintro e w4 ⟨rfl, hy⟩); go_wp2_with fail; (refine hK.out _ _ (by first | assumption | exact Ext.trans (by assumption) hy | exact Res.ext (by assumption) hy | exact ResB.ext (by assumption) hy | exact ResC.ext (by assumption) hy | (go_split_ands; (repeat' apply And.intro) <;> exact Ext.cellOf hy (by assumption))) (fun hHeld => ?_)); clear hK K; (try simp only [Act.put, Ord.a, Ord.b, Ord.c]))
  (refine Ord.k 8 58 (v := ?_) ?_ ?_; rotate_left; (intro w h; (try dsimp only at h); go_simp; (try with_reducible rfl)); (try simp only [Act.put, Ord.a, Ord.b, Ord.c]))
  (refine Ord.k 9 67 (v := ?_) ?_ ?_; rotate_left; (intro w h; (try dsimp only at h); go_simp; (try with_reducible rfl)); (try simp only [Act.put, Ord.a, Ord.b, Ord.c]))
  (refine Ord.k 10 68 (v := ?_) ?_ ?_; rotate_left; (intro w h; (try dsimp only at h); go_simp; (try with_reducible rfl)); (try simp only [Act.put, Ord.a, Ord.b, Ord.c]))
  (refine Ord.k 11 12 (v := ?_) ?_ ?_; rotate_left; (intro w h; (try dsimp only at h); go_simp; (try with_reducible rfl)); (try simp only [Act.put, Ord.a, Ord.b, Ord.c]))
  (refine Ord.k 12 13 (v := ?_) ?_ ?_; rotate_left; (intro w h; (try dsimp only at h); go_simp; (try with_reducible rfl)); (try simp only [Act.put, Ord.a, Ord.b, Ord.c]))
  refine wpAnyH_done (by kernel_rfl) ?_ _
  have h4 : Ext W3 w4 := by assumption
  clear e0 e1 e8 k1 k2 q0 q1 SQ hHeld
  replace CB := Lib.hid (CB.out.ext h4); replace TB := Lib.hid (TB.out.ext h4); replace HM := Lib.hid (HM.out.ext h4); replace HF := Lib.hid (HF.out.ext h4); replace hx := Lib.hid (hx.out.trans h4); replace XW := Lib.hid (XW.out.trans h4)
  clear h4
  obtain ⟨sd, hsd⟩ : ∃ sd, sd = sqD xk yk (mk ms i).x (mk ms i).y := ⟨_, rfl⟩
  rw [← hsd] at SB ND ⊢
  clear hsd
  have hn41 := H41.out
  go_wp2_with fail
  refine (rootOf_in sd _ SB.out.1 (by have := SB.out.2; omega)).mono ?_
  rintro e w5 ⟨rfl, rfl⟩
  generalize rt sd = rs at *
  have it := (TB.out 0 _ rfl).1
  go_wp2
  go_loopw [16] (fun i wr => RelJ w4 fs.length i wr) (fun i wr => fs.length - (intOf i).toNat)
  case atStart => exact ⟨0, rfl, Nat.zero_le _, Ext.refl _⟩
  case round =>
    obtain ⟨j, rfl, hj, hyy⟩ := hrel
    have HX := Lib.hid hyy
    have btr := hyy.cellOf it
    clear hyy
    by_cases hj1 : j < fs.length
    · obtain ⟨z0, z1, z2, z3⟩ := ND.out j hj1
      obtain ⟨t, ht⟩ : ∃ t, t = (fx fs j).t := ⟨_, rfl⟩
      have c0 := FR.out j hj1 wr (XW.out.trans HX.out)
      rw [← ht] at z0 z1 z2 z3 c0
      clear ht
      have KD := Lib.hid (fun w' (h : Ext wr w') => K3.out t w' (HM.out.ext (HX.out.trans h)) (HF.out.ext (HX.out.trans h)))
      rw [z0] at KD
      generalize dmV l k ms fs i t = dv at *
      have k0 : (0 : Int) ≤ (j : Int) := by omega
      have k1 : (j : Int) < (fs.length : Int) := by omega
      have T0 : IntKind.i64.wrap ((j : Int) + 1) = (j : Int) + 1 := IntWalk.i64_in _ (by omega)
      have T2 : IntKind.i64.wrap (dv + 2) = dv + 2 := IntWalk.i64_in _ (by omega)
      have hr1 : ¬ dv + 2 < rs := by omega
      have CR := CB.out.ext HX.out
      obtain ⟨⟨n0, n1, n2, n3, n4, n5, n6, n7, n8⟩, _⟩ := Box.nine CR
      have eC0 : ∀ w', Ext wr w' → w'.cell? ⟨w1.heap.size, 0, none⟩ = _ := fun w' h => h.cellOf n0
      have eC1 : ∀ w', Ext wr w' → w'.cell? ⟨w1.heap.size, 1, none⟩ = _ := fun w' h => h.cellOf n1
      have eC2 : ∀ w', Ext wr w' → w'.cell? ⟨w1.heap.size, 2, none⟩ = _ := fun w' h => h.cellOf n2
      have eC3 : ∀ w', Ext wr w' → w'.cell? ⟨w1.heap.size, 3, none⟩ = _ := fun w' h => h.cellOf n3
      have eC4 : ∀ w', Ext wr w' → w'.cell? ⟨w1.heap.size, 4, none⟩ = _ := fun w' h => h.cellOf n4
      have eC5 : ∀ w', Ext wr w' → w'.cell? ⟨w1.heap.size, 5, none⟩ = _ := fun w' h => h.cellOf n5
      have eC6 : ∀ w', Ext wr w' → w'.cell? ⟨w1.heap.size, 6, none⟩ = _ := fun w' h => h.cellOf n6
      have eC7 : ∀ w', Ext wr w' → w'.cell? ⟨w1.heap.size, 7, none⟩ = _ := fun w' h => h.cellOf n7
      have eC8 : ∀ w', Ext wr w' → w'.cell? ⟨w1.heap.size, 8, none⟩ = _ := fun w' h => h.cellOf n8
      have eT : ∀ w', Ext wr w' → w'.cell? ⟨w1.heap.size + 1, 0, none⟩ = some (.slice (some ⟨gb, 0, none⟩) fs.length tc) := fun w' h => h.cellOf btr
      have eR : ∀ w', Ext wr w' → w'.cell? ⟨gb, j * 3, none⟩ = some (.int .i64 t) := fun w' h => h.cellOf c0
      clear n0 n1 n2 n3 n4 n5 n6 n7 n8 CR c0 z0 z1
      go_wp2_with fail
      refine wp_region_held_drew (S := (fun w' => Ext wr w')) (by kernel_rfl) (by (try dsimp only); first | go_keep | exact (Ext.refl _).drew | exact Res.new2.drew | exact Res.new4.drew | exact ResB.drew (by assumption) | exact ResC.drew (by assumption) | assumption | exact Ext.drew (by assumption) | exact Res.drew (by assumption)) (fun hHeld => ?_)
      (refine Ord.k 0 82 (v := ?_) ?_ ?_; rotate_left; (intro w h; (try dsimp only at h); go_simp; (try with_reducible rfl)); (try simp only [Act.put, Ord.a, Ord.b, Ord.c]))
      (refine Ord.k 1 83 (v := ?_) ?_ ?_; rotate_left; (intro w h; (try dsimp only at h); go_simp; (try with_reducible rfl)); (try simp only [Act.put, Ord.a, Ord.b, Ord.c]))
      (refine Ord.k 2 84 (v := ?_) ?_ ?_; rotate_left; (intro w h; (try dsimp only at h); go_simp; (try with_reducible rfl)); (try simp only [Act.put, Ord.a, Ord.b, Ord.c]))
      (refine Ord.k 3 85 (v := ?_) ?_ ?_; rotate_left; (intro w h; (try dsimp only at h); go_simp; (try with_reducible rfl)); (try simp only [Act.put, Ord.a, Ord.b, Ord.c]))
      (refine Ord.k 4 86 (v := ?_) ?_ ?_; rotate_left; (intro w h; (try dsimp only at h); go_simp; (try with_reducible rfl)); (try simp only [Act.put, Ord.a, Ord.b, Ord.c]))
      (refine Ord.k 5 87 (v := ?_) ?_ ?_; rotate_left; (intro w h; (try dsimp only at h); go_simp; (try with_reducible rfl)); (try simp only [Act.put, Ord.a, Ord.b, Ord.c]))
      (refine Ord.k 6 88 (v := ?_) ?_ ?_; rotate_left; (intro w h; (try dsimp only at h); go_simp; (try with_reducible rfl)); (try simp only [Act.put, Ord.a, Ord.b, Ord.c]))
      (refine Ord.k 7 89 (v := ?_) ?_ ?_; rotate_left; (intro w h; (try dsimp only at h); go_simp; (try with_reducible rfl)); (try simp only [Act.put, Ord.a, Ord.b, Ord.c]))
      (refine Ord.k 8 90 (v := ?_) ?_ ?_; rotate_left; (intro w h; (try dsimp only at h); go_simp; (try with_reducible rfl)); (try simp only [Act.put, Ord.a, Ord.b, Ord.c]))
      (refine wpAnyH_ready (rs := [9]) (by kernel_rfl) (by simp) ?_; refine AllReadyH.cons rfl (fun K hK => ?_) AllReadyH.nil; go_simp; (go_at_call 19; refine (KD.out _ (by assumption)).mono ?_; rintro e w6 ⟨rfl, hy⟩); go_wp2_with fail; (refine hK.out _ _ (by first | assumption | exact Ext.trans (by assumption) hy | exact Res.ext (by assumption) hy | exact ResB.ext (by assumption) hy | exact ResC.ext (by assumption) hy | (go_split_ands; (repeat' apply And.intro) <;> exact Ext.cellOf hy (by assumption))) (fun hHeld => ?_)); clear hK K; (try simp only [Act.put, Ord.a, Ord.b, Ord.c]))
      (refine Ord.k 10 81 (v := ?_) ?_ ?_; rotate_left; (intro w h; (try dsimp only at h); go_simp; (try with_reducible rfl)); (try simp only [Act.put, Ord.a, Ord.b, Ord.c]))
      (refine Ord.k 11 92 (v := ?_) ?_ ?_; rotate_left; (intro w h; (try dsimp only at h); go_simp; (try with_reducible rfl)); (try simp only [Act.put, Ord.a, Ord.b, Ord.c]))
      (refine Ord.k 12 93 (v := ?_) ?_ ?_; rotate_left; (intro w h; (try dsimp only at h); go_simp; (try with_reducible rfl)); (try simp only [Act.put, Ord.a, Ord.b, Ord.c]))
      (refine Ord.k 13 17 (v := ?_) ?_ ?_; rotate_left; (intro w h; (try dsimp only at h); go_simp; (try with_reducible rfl)); (try simp only [Act.put, Ord.a, Ord.b, Ord.c]))
      (refine Ord.k 14 18 (v := ?_) ?_ ?_; rotate_left; (intro w h; (try dsimp only at h); go_simp; (try with_reducible rfl)); (try simp only [Act.put, Ord.a, Ord.b, Ord.c]))
      refine wpAnyH_done (by kernel_rfl) ?_ _
      have H6 := Lib.hid (HX.out.trans (by assumption : Ext wr w6))
      clear eC0 eC1 eC2 eC3 eC4 eC5 eC6 eC7 eC8 eT eR
      go_wp2
      go_roundw
      case rel => exact ⟨j + 1, by go_num, by omega, H6.out⟩
      case measure => simp [intOf]; omega
    · obtain rfl : j = fs.length := by omega
      go_wp2
      go_ret
      exact ⟨rfl, hx.out.trans HX.out⟩
end Go.Proofs.YtplbahdomjeekaaGreat.fnNearest
