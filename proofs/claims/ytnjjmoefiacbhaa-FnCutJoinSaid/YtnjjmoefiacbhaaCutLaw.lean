import Derived.Test.YtnjjmoefiacbhaaMDrawK
import Derived.Test.YtnjjmoefiacbhaaBig
import Derived.Test.YtnjjmoefiacbhaaCutMath
import Derived.Test.YtnjjmoefiacbhaaJoin2
import Derived.Test.YtnjjmoefiacbhaaPos
import Derived.Deep.DeepCutAuto
import Derived.ChangeOld
import Derived.Below
import Derived.Lib.SmallJoins
namespace Go.Proofs.Ytnjjmoefiacbhaa.fnCutJoin
open Go.ChangeShapes Go.WideShapes Go.ChangeAt Go.RowKit
open Go.Proofs.Ytnjjmoefiacbhaa.Kit Go.Proofs.Ytnjjmoefiacbhaa.Num Go.Proofs.Ytnjjmoefiacbhaa.Draw Go.Proofs.Ytnjjmoefiacbhaa.Pts Go.Proofs.Ytnjjmoefiacbhaa.Seg Go.Proofs.Ytnjjmoefiacbhaa.Trk
set_option linter.unusedVariables false
set_option linter.unusedSimpArgs false
def RelE9 (w : World) (n : Nat) (i : Value) (wr : World) : Prop := ∃ k : Nat, i = .int .i64 k ∧ k ≤ n ∧ Ext w wr
set_option maxHeartbeats 1000000 in
theorem w9_same (a b : Option Addr) (cap cap' : Nat) (fs : List F3) (w : World) (ha : Fxs w a fs) (hb : Fxs w b fs) : Calls Try.prog 16 #[Tr (.slice a fs.length cap), Tr (.slice b fs.length cap')] w fun e w' => e = .returned (.bool true) ∧ Ext w w' := by
  have hm := ha.1
  unfold maxLen at hm
  obtain ⟨W0, hW0⟩ : ∃ W0, W0 = (w.alloc (.cells #[.slice a fs.length cap] 28)).alloc (.cells #[.slice b fs.length cap'] 28) := ⟨_, rfl⟩
  have hX : Ext w W0 := hW0 ▸ ((Ext.refl w).alloc _).alloc _
  have e0 : ∀ w', Ext W0 w' → w'.cell? ⟨w.heap.size, 0, none⟩ = some (.slice a fs.length cap) := fun w' h => h.cellOf (by rw [hW0]; exact ((Ext.refl _).alloc _).cellOf (boxed 0 rfl rfl))
  have e1 : ∀ w', Ext W0 w' → w'.cell? ⟨w.heap.size + 1, 0, none⟩ = some (.slice b fs.length cap') := fun w' h => h.cellOf (by rw [hW0]; exact boxed 0 rfl (by simp))
  have HA := Lib.hid (ha.ext hX)
  have HB := Lib.hid (hb.ext hX)
  have c0 := e0 W0 (Ext.refl _)
  have c1 := e1 W0 (Ext.refl _)
  have HX0 := Lib.hid hX
  clear ha hb hX
  go_enter Try.func16, Try.ntmps16
  go_wp2_with fail
  rw [← hW0]
  clear hW0 c0 c1
  go_loopw [5] (fun i wr => RelE9 W0 fs.length i wr) (fun i _ => fs.length - (intOf i).toNat)
  case atStart => exact ⟨0, rfl, Nat.zero_le _, Ext.refl _⟩
  case round =>
    obtain ⟨k, rfl, hk, hx⟩ := hrel
    have t0 := e0 _ hx
    by_cases hk1 : k < fs.length
    · obtain ⟨b1, o1, rfl, h1⟩ := HA.out.row (by omega)
      obtain ⟨b2, o2, rfl, h2⟩ := HB.out.row (by omega)
      have d0 : ∀ w', Ext W0 w' → w'.cell? ⟨b1, o1 + k * 3, none⟩ = some (.int .i64 (fx fs k).t) := fun w' h => h.cellOf (h1 k hk1).1
      have d1 : ∀ w', Ext W0 w' → w'.cell? ⟨b1, o1 + k * 3 + 1, none⟩ = some (.int .i64 (fx fs k).x) := fun w' h => h.cellOf (h1 k hk1).2.1
      have d2 : ∀ w', Ext W0 w' → w'.cell? ⟨b1, o1 + k * 3 + 2, none⟩ = some (.int .i64 (fx fs k).y) := fun w' h => h.cellOf (h1 k hk1).2.2
      have g0 : ∀ w', Ext W0 w' → w'.cell? ⟨b2, o2 + k * 3, none⟩ = some (.int .i64 (fx fs k).t) := fun w' h => h.cellOf (h2 k hk1).1
      have g1 : ∀ w', Ext W0 w' → w'.cell? ⟨b2, o2 + k * 3 + 1, none⟩ = some (.int .i64 (fx fs k).x) := fun w' h => h.cellOf (h2 k hk1).2.1
      have g2 : ∀ w', Ext W0 w' → w'.cell? ⟨b2, o2 + k * 3 + 2, none⟩ = some (.int .i64 (fx fs k).y) := fun w' h => h.cellOf (h2 k hk1).2.2
      have i0 : (0 : Int) ≤ (k : Int) := by omega
      have i1 : (k : Int) < (fs.length : Int) := by omega
      clear h1 h2
      go_upto_region 6 with fail
      refine wp_region_held_drew (S := (fun w' => Ext W0 w')) (by kernel_rfl) (by (try dsimp only); first | go_keep | exact (Ext.refl _).drew | exact Res.new2.drew | exact Res.new4.drew | exact ResB.drew (by assumption) | exact ResC.drew (by assumption) | assumption | exact Ext.drew (by assumption) | exact Res.drew (by assumption)) (fun hHeld => ?_)
      (refine Ord.k 0 20 (v := ?_) ?_ ?_; rotate_left; (intro w h; (try dsimp only at h); go_simp; (try with_reducible rfl)); (try simp only [Act.put, Ord.a, Ord.b, Ord.c]))
      (refine Ord.k 1 21 (v := ?_) ?_ ?_; rotate_left; (intro w h; (try dsimp only at h); go_simp; (try with_reducible rfl)); (try simp only [Act.put, Ord.a, Ord.b, Ord.c]))
      (refine Ord.k 2 22 (v := ?_) ?_ ?_; rotate_left; (intro w h; (try dsimp only at h); go_simp; (try with_reducible rfl)); (try simp only [Act.put, Ord.a, Ord.b, Ord.c]))
      (refine Ord.k 3 23 (v := ?_) ?_ ?_; rotate_left; (intro w h; (try dsimp only at h); go_simp; (try with_reducible rfl)); (try simp only [Act.put, Ord.a, Ord.b, Ord.c]))
      (refine Ord.k 4 24 (v := ?_) ?_ ?_; rotate_left; (intro w h; (try dsimp only at h); go_simp; (try with_reducible rfl)); (try simp only [Act.put, Ord.a, Ord.b, Ord.c]))
      (refine Ord.k 5 25 (v := ?_) ?_ ?_; rotate_left; (intro w h; (try dsimp only at h); go_simp; (try with_reducible rfl)); (try simp only [Act.put, Ord.a, Ord.b, Ord.c]))
      (refine Ord.k 6 26 (v := ?_) ?_ ?_; rotate_left; (intro w h; (try dsimp only at h); go_simp; (try with_reducible rfl)); (try simp only [Act.put, Ord.a, Ord.b, Ord.c]))
      (refine Ord.k 7 27 (v := ?_) ?_ ?_; rotate_left; (intro w h; (try dsimp only at h); go_simp; (try with_reducible rfl)); (try simp only [Act.put, Ord.a, Ord.b, Ord.c]))
      (refine Ord.k 8 28 (v := ?_) ?_ ?_; rotate_left; (intro w h; (try dsimp only at h); go_simp; (try with_reducible rfl)); (try simp only [Act.put, Ord.a, Ord.b, Ord.c]))
      (refine Ord.k 9 29 (v := ?_) ?_ ?_; rotate_left; (intro w h; (try dsimp only at h); go_simp; (try with_reducible rfl)); (try simp only [Act.put, Ord.a, Ord.b, Ord.c]))
      (refine Ord.k 10 30 (v := ?_) ?_ ?_; rotate_left; (intro w h; (try dsimp only at h); go_simp; (try with_reducible rfl)); (try simp only [Act.put, Ord.a, Ord.b, Ord.c]))
      refine wpAnyH_done (by kernel_rfl) ?_ _
      have HX := Lib.hid hHeld
      clear hHeld hx t0 d0 d1 d2 g0 g1 g2
      go_wp2
      go_roundw
      case rel => exact ⟨k + 1, by go_num, by omega, HX.out⟩
      case measure => simp [intOf]; omega
    · obtain rfl : k = fs.length := by omega
      have HX := Lib.hid hx
      clear hx
      go_wp2
      go_ret
      exact ⟨rfl, HX0.out.trans HX.out⟩
def RelCJ (w : World) (n : Nat) (i : Value) (wr : World) : Prop := ∃ k : Nat, i = .int .i64 k ∧ k ≤ n ∧ Ext w wr
set_option maxRecDepth 100000 in
set_option maxHeartbeats 8000000 in
theorem walk (c0 : Option Addr) (len cap : Nat) (zs : List Int) (w : World) (hr : IsRow .u8 w c0 len cap zs) :
    Calls Try.prog 4 #[.slice c0 len cap] w fun e w' => e = .returned (.bool true) ∧ Ext w w' := by
  have HB := Lib.hid hr.bytes
  clear hr
  by_cases hl : 4096 < len
  · have g := show bigB len = true from decide_eq_true hl
    go_enter Try.func4, Try.ntmps4
    go_wp2_with (go_at_call 12; refine (big_any _ _ _ _).mono ?_; rintro e w' ⟨rfl, rfl⟩)
    go_ret
    exact ⟨rfl, Ext.refl _⟩
  have g := show bigB len = false from decide_eq_false hl
  go_enter Try.func4, Try.ntmps4
  go_wp2_with fail
  refine (big_any _ _ _ _).mono ?_
  rintro e w' ⟨rfl, rfl⟩
  go_wp2_with fail
  refine (drawCutTrack_any c0 len cap _ HB.out (by omega)).mono ?_
  rintro e w1 ⟨gb, tc, n, f, t, rfl, h41, htc, hI, hx⟩
  obtain ⟨fs, rfl, hO⟩ := hI.own
  obtain ⟨W, hW⟩ : ∃ W, W = w1.alloc (.cells #[.slice (some ⟨gb, 0, none⟩) fs.length tc] 28) := ⟨_, rfl⟩
  have h1W : Ext w1 W := hW ▸ (Ext.refl _).alloc _
  have ct : ∀ w', Ext W w' → w'.cell? ⟨w1.heap.size, 0, none⟩ = some (.slice (some ⟨gb, 0, none⟩) fs.length tc) := fun w' h => h.cellOf (by rw [hW]; exact boxed 0 rfl rfl)
  have hFx := hO.fxs (by unfold maxLen; omega)
  have hF := Lib.hid (fun w' (h : Ext W w') => hFx.ext (h1W.trans h))
  have HO := Lib.hid (fun w' (h : Ext W w') j (hj : j < fs.length) => ((hO j hj).1).ext (h1W.trans h))
  replace hx := Lib.hid (hx.trans h1W)
  clear HB g hl hI hO hFx h1W
  have KC := Lib.hid (fun f t w' (h : Ext W w') => cut_impl (some ⟨gb, 0, none⟩) tc fs f t w' (hF.out w' h) htc)
  have KS := Lib.hid (fun w' (h : Ext W w') => cut_spec (some ⟨gb, 0, none⟩) tc fs f t w' (hF.out w' h))
  have KP := Lib.hid (fun s w' (h : Ext W w') => position_impl (some ⟨gb, 0, none⟩) tc fs s w' (hF.out w' h) htc)
  have HL := Lib.hid (ctF_len fs f t)
  obtain ⟨ck, hck⟩ : ∃ ck, ck = ckI fs f t := ⟨_, rfl⟩
  obtain ⟨ds, hds⟩ : ∃ ds, ds = ctF fs f t := ⟨_, rfl⟩
  rw [← hck] at KS
  rw [← hds] at KS HL
  have K1 := Lib.hid (KC.out f t)
  rw [← hck, ← hds] at K1
  replace hck := Lib.hid hck
  replace hds := Lib.hid hds
  have t0 := ct W (Ext.refl _)
  go_wp2_with fail
  rw [← hW]
  clear hW
  refine (K1.out _ (Ext.refl _)).mono ?_
  rintro e w2 ⟨v1, rfl, O1, hy⟩
  obtain ⟨a1, cap1, rfl, q1, F1, -⟩ := O1.fxs
  obtain ⟨wA, hwA⟩ : ∃ wA, wA = w2.alloc (.cells #[.slice a1 ds.length cap1] 28) := ⟨_, rfl⟩
  have hA : Ext w2 wA := hwA ▸ (Ext.refl _).alloc _
  have X1 := Lib.hid (fun w' (h : Ext wA w') => show w'.cell? ⟨w2.heap.size, 0, none⟩ = some (.slice a1 ds.length cap1) from h.cellOf (by rw [hwA]; exact boxed 0 rfl rfl))
  have hw := Lib.hid (hy.trans hA)
  replace F1 := Lib.hid (fun w' (h : Ext wA w') => F1.ext (hA.trans h))
  replace t0 := ct _ hw.out
  rw [hwA] at t0
  clear hy hA K1 O1
  go_wp2_with fail
  rw [← hwA]
  clear hwA
  refine (KS.out _ hw.out).mono ?_
  rintro e w3 ⟨v2, rfl, O2, hy⟩
  obtain ⟨a2, cap2, rfl, q2, F2, -⟩ := O2.fxs
  obtain ⟨wB, hwB⟩ : ∃ wB, wB = w3.alloc (.cells #[.slice a2 ds.length cap2] 28) := ⟨_, rfl⟩
  have hA : Ext w3 wB := hwB ▸ (Ext.refl _).alloc _
  have X2 := Lib.hid (fun w' (h : Ext wB w') => show w'.cell? ⟨w3.heap.size, 0, none⟩ = some (.slice a2 ds.length cap2) from h.cellOf (by rw [hwB]; exact boxed 0 rfl rfl))
  have hAB := Lib.hid (hy.trans hA)
  replace hw := Lib.hid (hw.out.trans (hy.trans hA))
  replace F2 := Lib.hid (fun w' (h : Ext wB w') => F2.ext (hA.trans h))
  have x1 := X1.out _ hAB.out
  have x2 := X2.out _ (Ext.refl _)
  rw [hwB] at x1 x2
  clear hy hA KS O2 t0
  go_wp2_with fail
  rw [← hwB]
  clear hwB
  refine (w9_same _ _ _ _ _ _ (F1.out _ hAB.out) (F2.out _ (Ext.refl _))).mono ?_
  rintro e w4 ⟨rfl, hB⟩
  by_cases hk0 : ck = 0
  rotate_left
  · have z0 : (ck == 0) = false := beq_eq_false_iff_ne.2 hk0
    have HX := Lib.hid (hx.out.trans (hw.out.trans hB))
    clear hk0 x1 x2 hB
    go_wp2
    go_ret
    exact ⟨rfl, HX.out⟩
  subst hk0
  obtain ⟨hv, hft, hl1, hl2⟩ := ckI_zero hck.out.symm
  have eds : ds = cutF fs f t := hds.out.trans (if_pos hck.out.symm)
  clear hds hck
  have hn := (trB_yes hv).1
  have PS := Lib.hid (fun i (hi : i < ds.length) => show ctI fs (fx ds i).t = 0 ∧ poX fs (fx ds i).t = (fx ds i).x ∧ poY fs (fx ds i).t = (fx ds i).y by rw [eds] at hi ⊢; exact cut_pos hv hft hl1 hl2 hi)
  have TR := Lib.hid (show trB ds = true by rw [eds]; exact cut_tr hv hft hl1 hl2)
  have LS := Lib.hid (last_yes hl2).2
  have LL := Lib.hid (last_last hv)
  have JC := Lib.hid (fun h => join_cut hv hft hl1 hl2 h)
  rw [← eds] at JC
  replace hB := Lib.hid hB
  have W4 := Lib.hid (hw.out.trans hB.out)
  have Y2 := Lib.hid (fun w' (h : Ext w4 w') => X2.out w' (hB.out.trans h))
  have Y1 := Lib.hid (fun w' (h : Ext w4 w') => X1.out w' (hAB.out.trans (hB.out.trans h)))
  have G1 := Lib.hid (fun w' (h : Ext w4 w') => F1.out w' (hAB.out.trans (hB.out.trans h)))
  have G2 := Lib.hid (fun w' (h : Ext w4 w') => F2.out w' (hB.out.trans h))
  have R2 : ∃ b off, a2 = some ⟨b, off, none⟩ ∧ ∀ w', Ext w4 w' → ∀ i, i < ds.length → At w' b (off + i * 3) (fx ds i) := by
    obtain ⟨b, off, e, h⟩ := (G2.out w4 (Ext.refl _)).row (by have := (trB_yes TR.out).1; omega)
    exact ⟨b, off, e, fun w' h2 i hi => (h i hi).ext h2⟩
  obtain ⟨b2, o2, rfl, R2⟩ := R2
  replace R2 := Lib.hid R2
  clear hAB X1 X2 F1 F2 x1 x2
  have y2 := Y2.out _ (Ext.refl _)
  have hn1 : 2 ≤ fs.length := hn.1
  have HL2 := Lib.hid hl2
  clear hl1 hl2 hn hft
  replace hv := Lib.hid hv
  replace eds := Lib.hid eds
  go_wp2_with fail
  go_loopw [10] (fun i wr => RelCJ w4 ds.length i wr) (fun i _ => ds.length - (intOf i).toNat)
  case atStart => exact ⟨0, rfl, Nat.zero_le _, Ext.refl _⟩
  case round =>
    obtain ⟨k, rfl, hk, hy⟩ := hrel
    have y2 := Y2.out _ hy
    by_cases hk1 : k < ds.length
    · obtain ⟨p0, p1, p2⟩ := PS.out k hk1
      have KX := Lib.hid (fun w' (h : Ext wr w') => KP.out (fx ds k).t w' (W4.out.trans (hy.trans h)))
      rw [p0, p1, p2] at KX
      have r0 : ∀ w', Ext wr w' → w'.cell? ⟨b2, o2 + k * 3, none⟩ = some (.int .i64 (fx ds k).t) := fun w' h => (R2.out w' (hy.trans h) k hk1).1
      have r1 : ∀ w', Ext wr w' → w'.cell? ⟨b2, o2 + k * 3 + 1, none⟩ = some (.int .i64 (fx ds k).x) := fun w' h => (R2.out w' (hy.trans h) k hk1).2.1
      have r2 : ∀ w', Ext wr w' → w'.cell? ⟨b2, o2 + k * 3 + 2, none⟩ = some (.int .i64 (fx ds k).y) := fun w' h => (R2.out w' (hy.trans h) k hk1).2.2
      have et : ∀ w', Ext wr w' → w'.cell? ⟨w1.heap.size, 0, none⟩ = some (.slice (some ⟨gb, 0, none⟩) fs.length tc) := fun w' h => ct w' (W4.out.trans (hy.trans h))
      have ed : ∀ w', Ext wr w' → w'.cell? ⟨w3.heap.size, 0, none⟩ = some (.slice (some ⟨b2, o2, none⟩) ds.length cap2) := fun w' h => Y2.out w' (hy.trans h)
      have i0 : (0 : Int) ≤ (k : Int) := by omega
      have i1 : (k : Int) < (ds.length : Int) := by omega
      have T0 : IntKind.i64.wrap ((k : Int) + 1) = (k : Int) + 1 := IntWalk.i64_in _ (by have := HL.out; omega)
      have HY := Lib.hid hy
      clear p0 p1 p2 hy
      go_upto_region 13 with fail
      clear y2
      go_cut [11, 12] from 53 to 89 (fun s u wx => (∃ B, s = .pointer (some ⟨B, 0, none⟩) ∧ Box wx B [.int .i64 (fx ds k).x, .int .i64 (fx ds k).y]) ∧ u = .int .i64 0 ∧ Ext wr wx)
      case first =>
        refine wp_region_held_drew (S := fun w' => Ext wr w') (by kernel_rfl) (by (try dsimp only); exact (Ext.refl _).drew) (fun hHeld => ?_)
        (refine Ord.k 0 61 (v := ?_) ?_ ?_; rotate_left; (intro w h; (try dsimp only at h); go_simp; (try with_reducible rfl)); (try simp only [Act.put, Ord.a, Ord.b, Ord.c])); (refine Ord.k 1 62 (v := ?_) ?_ ?_; rotate_left; (intro w h; (try dsimp only at h); go_simp; (try with_reducible rfl)); (try simp only [Act.put, Ord.a, Ord.b, Ord.c])); (refine Ord.k 2 63 (v := ?_) ?_ ?_; rotate_left; (intro w h; (try dsimp only at h); go_simp; (try with_reducible rfl)); (try simp only [Act.put, Ord.a, Ord.b, Ord.c])); (refine Ord.k 3 64 (v := ?_) ?_ ?_; rotate_left; (intro w h; (try dsimp only at h); go_simp; (try with_reducible rfl)); (try simp only [Act.put, Ord.a, Ord.b, Ord.c])); (refine Ord.k 4 65 (v := ?_) ?_ ?_; rotate_left; (intro w h; (try dsimp only at h); go_simp; (try with_reducible rfl)); (try simp only [Act.put, Ord.a, Ord.b, Ord.c])); (refine Ord.k 5 66 (v := ?_) ?_ ?_; rotate_left; (intro w h; (try dsimp only at h); go_simp; (try with_reducible rfl)); (try simp only [Act.put, Ord.a, Ord.b, Ord.c])); (refine Ord.k 6 67 (v := ?_) ?_ ?_; rotate_left; (intro w h; (try dsimp only at h); go_simp; (try with_reducible rfl)); (try simp only [Act.put, Ord.a, Ord.b, Ord.c]))
        have hE : Ext wr wr.drew := (Ext.refl _).drew
        obtain ⟨V0, hV0⟩ : ∃ V0, V0 = wr.drew := ⟨_, rfl⟩
        rw [← hV0] at hE hHeld ⊢
        clear hV0
        have z0 := Ext.size hE
        refine wpAnyH_ready (rs := [7, 11]) (by kernel_rfl) (by simp) ?_
        refine (AllReadyH.cons rfl (fun K hK => ?_) (AllReadyH.cons rfl (fun K hK => ?_) AllReadyH.nil))
        · go_simp
          go_at_call 17
          refine (KX.out _ hE).mono ?_
          rintro e V1 ⟨rfl, hq⟩
          go_wp2_with fail
          have hE' := hE.trans hq
          refine hK.out _ _ hE' (fun hHeld => ?_)
          clear hK K
          (try simp only [Act.put, Ord.a, Ord.b, Ord.c])
          replace hE := hE'
          clear hE' hq
          have z1 := Ext.size hE
          (refine Ord.k 8 60 (v := ?_) ?_ ?_; rotate_left; (intro w h; (try dsimp only at h); go_simp; (try with_reducible rfl)); (try simp only [Act.put, Ord.a, Ord.b, Ord.c])); (refine Ord.k 9 69 (v := ?_) ?_ ?_; rotate_left; (intro w h; (try dsimp only at h); go_simp; (try with_reducible rfl)); (try simp only [Act.put, Ord.a, Ord.b, Ord.c])); (refine Ord.k 10 70 (v := ?_) ?_ ?_; rotate_left; (intro w h; (try dsimp only at h); go_simp; (try with_reducible rfl)); (try simp only [Act.put, Ord.a, Ord.b, Ord.c]))
          refine wpAnyH_ready (rs := [11]) (by kernel_rfl) (by simp) ?_
          refine (AllReadyH.cons rfl (fun K hK => ?_) AllReadyH.nil)
          go_simp
          have hE' : Ext wr (V1.alloc (.cells #[.int .i64 0, .int .i64 0] 41)) := hE.alloc _
          refine hK.out _ _ hE' (fun hHeld => ?_)
          clear hK K
          (try simp only [Act.put, Ord.a, Ord.b, Ord.c])
          have PB := Box.new2 (w := V1) (n := V1.heap.size) (x := .int .i64 0) (y := .int .i64 0) (t := 41) rfl
          replace hE := hE'
          clear hE'
          generalize V1.alloc (.cells #[.int .i64 0, .int .i64 0] 41) = V2 at *
          obtain ⟨⟨u0, u1⟩, g0, g1⟩ := PB.two
          refine wpAnyH_ready (rs := [12]) (by kernel_rfl) (by simp) ?_
          refine AllReadyH.cons rfl (fun K hK => ?_) AllReadyH.nil
          go_simp
          have hE' : Ext wr ((V2.setCell ⟨V1.heap.size, 0, none⟩ (.int .i64 (fx ds k).x)).setCell ⟨V1.heap.size, 1, none⟩ (.int .i64 (fx ds k).y)) := (hE.setNew (by simp; omega) _).setNew (by simp; omega) _
          refine hK.out _ _ hE' (fun hHeld => ?_)
          clear hK K u0 u1 g0 g1
          (try simp only [Act.put, Ord.a, Ord.b, Ord.c])
          (refine Ord.k 13 12 (v := ?_) ?_ ?_; rotate_left; (intro w h; (try dsimp only at h); go_simp; (try with_reducible rfl)); (try simp only [Act.put, Ord.a, Ord.b, Ord.c]))
          refine wpAnyH_done (by kernel_rfl) ?_ _
          go_wp2_with fail
          go_meet
          exact ⟨⟨_, rfl, PB.set2⟩, rfl, hE'⟩
        · go_simp
          have hE' : Ext wr (V0.alloc (.cells #[.int .i64 0, .int .i64 0] 41)) := hE.alloc _
          refine hK.out _ _ hE' (fun hHeld => ?_)
          clear hK K
          (try simp only [Act.put, Ord.a, Ord.b, Ord.c])
          have PB := Box.new2 (w := V0) (n := V0.heap.size) (x := .int .i64 0) (y := .int .i64 0) (t := 41) rfl
          replace hE := hE'
          clear hE'
          generalize V0.alloc (.cells #[.int .i64 0, .int .i64 0] 41) = V1 at *
          refine wpAnyH_ready (rs := [7]) (by kernel_rfl) (by simp) ?_
          refine (AllReadyH.cons rfl (fun K hK => ?_) AllReadyH.nil)
          go_simp
          go_at_call 17
          refine (KX.out _ hE).mono ?_
          rintro e V2 ⟨rfl, hq⟩
          go_wp2_with fail
          have hE' := hE.trans hq
          refine hK.out _ _ hE' (fun hHeld => ?_)
          clear hK K
          (try simp only [Act.put, Ord.a, Ord.b, Ord.c])
          replace PB := PB.ext hq
          replace hE := hE'
          clear hE' hq
          (refine Ord.k 8 60 (v := ?_) ?_ ?_; rotate_left; (intro w h; (try dsimp only at h); go_simp; (try with_reducible rfl)); (try simp only [Act.put, Ord.a, Ord.b, Ord.c])); (refine Ord.k 9 69 (v := ?_) ?_ ?_; rotate_left; (intro w h; (try dsimp only at h); go_simp; (try with_reducible rfl)); (try simp only [Act.put, Ord.a, Ord.b, Ord.c])); (refine Ord.k 10 70 (v := ?_) ?_ ?_; rotate_left; (intro w h; (try dsimp only at h); go_simp; (try with_reducible rfl)); (try simp only [Act.put, Ord.a, Ord.b, Ord.c]))
          obtain ⟨⟨u0, u1⟩, g0, g1⟩ := PB.two
          refine wpAnyH_ready (rs := [12]) (by kernel_rfl) (by simp) ?_
          refine AllReadyH.cons rfl (fun K hK => ?_) AllReadyH.nil
          go_simp
          have hE' : Ext wr ((V2.setCell ⟨V0.heap.size, 0, none⟩ (.int .i64 (fx ds k).x)).setCell ⟨V0.heap.size, 1, none⟩ (.int .i64 (fx ds k).y)) := (hE.setNew (by simp; omega) _).setNew (by simp; omega) _
          refine hK.out _ _ hE' (fun hHeld => ?_)
          clear hK K u0 u1 g0 g1
          (try simp only [Act.put, Ord.a, Ord.b, Ord.c])
          (refine Ord.k 13 12 (v := ?_) ?_ ?_; rotate_left; (intro w h; (try dsimp only at h); go_simp; (try with_reducible rfl)); (try simp only [Act.put, Ord.a, Ord.b, Ord.c]))
          refine wpAnyH_done (by kernel_rfl) ?_ _
          go_wp2_with fail
          go_meet
          exact ⟨⟨_, rfl, PB.set2⟩, rfl, hE'⟩
      case rest =>
        obtain ⟨⟨B1, rfl, PB⟩, rfl, hz⟩ := hcut
        obtain ⟨w5, rfl⟩ : ∃ w5 : World, w5 = wc := ⟨_, rfl⟩
        have m0 : ∀ w', Ext w5 w' → w'.cell? ⟨B1, 0, none⟩ = some (.int .i64 (fx ds k).x) := fun w' h => h.cellOf (PB 0 _ rfl).1
        have m1 : ∀ w', Ext w5 w' → w'.cell? ⟨B1, 1, none⟩ = some (.int .i64 (fx ds k).y) := fun w' h => h.cellOf (PB 1 _ rfl).1
        have n1 : ∀ w', Ext w5 w' → w'.cell? ⟨b2, o2 + k * 3 + 1, none⟩ = some (.int .i64 (fx ds k).x) := fun w' h => r1 w' (hz.trans h)
        have n2 : ∀ w', Ext w5 w' → w'.cell? ⟨b2, o2 + k * 3 + 2, none⟩ = some (.int .i64 (fx ds k).y) := fun w' h => r2 w' (hz.trans h)
        have nd : ∀ w', Ext w5 w' → w'.cell? ⟨w3.heap.size, 0, none⟩ = some (.slice (some ⟨b2, o2, none⟩) ds.length cap2) := fun w' h => ed w' (hz.trans h)
        have h55 := Ext.refl w5
        have HZ := Lib.hid hz
        clear r0 r1 r2 et ed PB hz KX
        go_upto_region 14 with fail
        refine wp_region_held_drew (S := (fun w' => Ext w5 w')) (by kernel_rfl) (by (try dsimp only); first | go_keep | exact (Ext.refl _).drew | exact Res.new2.drew | exact Res.new4.drew | exact ResB.drew (by assumption) | exact ResC.drew (by assumption) | assumption | exact Ext.drew (by assumption) | exact Res.drew (by assumption)) (fun hHeld => ?_)
        (refine Ord.k 0 71 (v := ?_) ?_ ?_; rotate_left; (intro w h; (try dsimp only at h); go_simp; (try with_reducible rfl)); (try simp only [Act.put, Ord.a, Ord.b, Ord.c]))
        (refine Ord.k 1 72 (v := ?_) ?_ ?_; rotate_left; (intro w h; (try dsimp only at h); go_simp; (try with_reducible rfl)); (try simp only [Act.put, Ord.a, Ord.b, Ord.c]))
        (refine Ord.k 2 73 (v := ?_) ?_ ?_; rotate_left; (intro w h; (try dsimp only at h); go_simp; (try with_reducible rfl)); (try simp only [Act.put, Ord.a, Ord.b, Ord.c]))
        (first | (refine Ord.s 3 74 ?_ ?_; rfl; (try simp only [Act.put, Ord.a, Ord.b, Ord.c])) | (refine Ord.k 3 74 (v := ?_) ?_ ?_; rotate_left; (intro w h; (try dsimp only at h); go_simp; (try with_reducible rfl)); (try simp only [Act.put, Ord.a, Ord.b, Ord.c])))
        (first | (refine Ord.s 4 75 ?_ ?_; rfl; (try simp only [Act.put, Ord.a, Ord.b, Ord.c])) | (refine Ord.k 4 75 (v := ?_) ?_ ?_; rotate_left; (intro w h; (try dsimp only at h); go_simp; (try with_reducible rfl)); (try simp only [Act.put, Ord.a, Ord.b, Ord.c])))
        (first | (refine Ord.s 5 76 ?_ ?_; rfl; (try simp only [Act.put, Ord.a, Ord.b, Ord.c])) | (refine Ord.k 5 76 (v := ?_) ?_ ?_; rotate_left; (intro w h; (try dsimp only at h); go_simp; (try with_reducible rfl)); (try simp only [Act.put, Ord.a, Ord.b, Ord.c])))
        (first | (refine Ord.s 6 77 ?_ ?_; rfl; (try simp only [Act.put, Ord.a, Ord.b, Ord.c])) | (refine Ord.k 6 77 (v := ?_) ?_ ?_; rotate_left; (intro w h; (try dsimp only at h); go_simp; (try with_reducible rfl)); (try simp only [Act.put, Ord.a, Ord.b, Ord.c])))
        (first | (refine Ord.s 7 78 ?_ ?_; rfl; (try simp only [Act.put, Ord.a, Ord.b, Ord.c])) | (refine Ord.k 7 78 (v := ?_) ?_ ?_; rotate_left; (intro w h; (try dsimp only at h); go_simp; (try with_reducible rfl)); (try simp only [Act.put, Ord.a, Ord.b, Ord.c])))
        (first | (refine Ord.s 8 79 ?_ ?_; rfl; (try simp only [Act.put, Ord.a, Ord.b, Ord.c])) | (refine Ord.k 8 79 (v := ?_) ?_ ?_; rotate_left; (intro w h; (try dsimp only at h); go_simp; (try with_reducible rfl)); (try simp only [Act.put, Ord.a, Ord.b, Ord.c])))
        (first | (refine Ord.s 9 80 ?_ ?_; rfl; (try simp only [Act.put, Ord.a, Ord.b, Ord.c])) | (refine Ord.k 9 80 (v := ?_) ?_ ?_; rotate_left; (intro w h; (try dsimp only at h); go_simp; (try with_reducible rfl)); (try simp only [Act.put, Ord.a, Ord.b, Ord.c])))
        (first | (refine Ord.s 10 81 ?_ ?_; rfl; (try simp only [Act.put, Ord.a, Ord.b, Ord.c])) | (refine Ord.k 10 81 (v := ?_) ?_ ?_; rotate_left; (intro w h; (try dsimp only at h); go_simp; (try with_reducible rfl)); (try simp only [Act.put, Ord.a, Ord.b, Ord.c])))
        (first | (refine Ord.s 11 82 ?_ ?_; rfl; (try simp only [Act.put, Ord.a, Ord.b, Ord.c])) | (refine Ord.k 11 82 (v := ?_) ?_ ?_; rotate_left; (intro w h; (try dsimp only at h); go_simp; (try with_reducible rfl)); (try simp only [Act.put, Ord.a, Ord.b, Ord.c])))
        (first | (refine Ord.s 12 83 ?_ ?_; rfl; (try simp only [Act.put, Ord.a, Ord.b, Ord.c])) | (refine Ord.k 12 83 (v := ?_) ?_ ?_; rotate_left; (intro w h; (try dsimp only at h); go_simp; (try with_reducible rfl)); (try simp only [Act.put, Ord.a, Ord.b, Ord.c])))
        (first | (refine Ord.s 13 84 ?_ ?_; rfl; (try simp only [Act.put, Ord.a, Ord.b, Ord.c])) | (refine Ord.k 13 84 (v := ?_) ?_ ?_; rotate_left; (intro w h; (try dsimp only at h); go_simp; (try with_reducible rfl)); (try simp only [Act.put, Ord.a, Ord.b, Ord.c])))
        (first | (refine Ord.s 14 85 ?_ ?_; rfl; (try simp only [Act.put, Ord.a, Ord.b, Ord.c])) | (refine Ord.k 14 85 (v := ?_) ?_ ?_; rotate_left; (intro w h; (try dsimp only at h); go_simp; (try with_reducible rfl)); (try simp only [Act.put, Ord.a, Ord.b, Ord.c])))
        (first | (refine Ord.s 15 86 ?_ ?_; rfl; (try simp only [Act.put, Ord.a, Ord.b, Ord.c])) | (refine Ord.k 15 86 (v := ?_) ?_ ?_; rotate_left; (intro w h; (try dsimp only at h); go_simp; (try with_reducible rfl)); (try simp only [Act.put, Ord.a, Ord.b, Ord.c])))
        (first | (refine Ord.s 16 87 ?_ ?_; rfl; (try simp only [Act.put, Ord.a, Ord.b, Ord.c])) | (refine Ord.k 16 87 (v := ?_) ?_ ?_; rotate_left; (intro w h; (try dsimp only at h); go_simp; (try with_reducible rfl)); (try simp only [Act.put, Ord.a, Ord.b, Ord.c])))
        (first | (refine Ord.s 17 88 ?_ ?_; rfl; (try simp only [Act.put, Ord.a, Ord.b, Ord.c])) | (refine Ord.k 17 88 (v := ?_) ?_ ?_; rotate_left; (intro w h; (try dsimp only at h); go_simp; (try with_reducible rfl)); (try simp only [Act.put, Ord.a, Ord.b, Ord.c])))
        (refine Ord.k 18 89 (v := ?_) ?_ ?_; rotate_left; (intro w h; (try dsimp only at h); go_simp; (try with_reducible rfl)); (try simp only [Act.put, Ord.a, Ord.b, Ord.c]))
        refine wpAnyH_done (by kernel_rfl) ?_ _
        have X7 := Lib.hid (HY.out.trans (HZ.out.trans hHeld))
        clear hHeld m0 m1 n1 n2 nd h55
        go_wp2
        go_roundw
        case rel => exact ⟨k + 1, by go_num, by omega, X7.out⟩
        case measure => simp [intOf]; omega
    · obtain rfl : k = ds.length := by omega
      have HY := Lib.hid hy
      have y3 := ct _ (W4.out.trans hy)
      have hm : fs.length - 1 < fs.length := by omega
      obtain ⟨l0, l1, l2⟩ := HO.out _ (W4.out.trans hy) (fs.length - 1) hm
      have T1 : IntKind.i64.wrap ((fs.length : Int) - 1) = (fs.length : Int) - 1 := IntWalk.i64_in _ (by omega)
      have T2 : ((fs.length : Int) - 1).toNat = fs.length - 1 := by omega
      have i2 : (0 : Int) ≤ (fs.length : Int) - 1 := by omega
      have i3 : (fs.length : Int) - 1 < (fs.length : Int) := by omega
      have i4 : (1 : Int) ≤ (fs.length : Int) := by omega
      have y1 := Y1.out _ hy
      clear hk hk1 PS R2 Y2 G2
      obtain ⟨zt, hzt⟩ : ∃ zt, zt = (fx fs (fs.length - 1)).t := ⟨_, rfl⟩
      rw [← hzt] at l0 LS LL JC
      replace hzt := Lib.hid hzt
      by_cases hte : t = zt
      · have z1 : (t == zt) = true := beq_iff_eq.2 hte
        have TX := Lib.hid (isTrack_impl a1 cap1 ds _ (G1.out _ hy))
        rw [TR.out] at TX
        clear hte hzt hy
        go_wp2_with fail
        refine TX.out.mono ?_
        rintro e w6 ⟨rfl, hq⟩
        go_wp2
        go_ret
        exact ⟨rfl, hx.out.trans (W4.out.trans (HY.out.trans hq))⟩
      have z1 : (t == zt) = false := beq_eq_false_iff_ne.2 hte
      have htz : t < zt := by have := LS.out; omega
      have cR : ckI fs t zt = 0 := (if_pos hv.out).trans (if_pos ⟨htz, HL2.out, LL.out⟩)
      have eR : ctF fs t zt = cutF fs t zt := if_pos cR
      have KR := Lib.hid (KC.out t zt)
      rw [cR, eR] at KR
      have J := Lib.hid (JC.out htz)
      generalize cutF fs t zt = es at *
      have PZ := Lib.hid (show (fx fs (fs.length - 1)).x = (fx fs (fs.length - 1)).x from rfl)
      clear cR eR hte htz KC
      go_wp2_with fail
      refine (KR.out _ (W4.out.trans hy)).mono ?_
      rintro e w6 ⟨v3, rfl, O3, hq⟩
      obtain ⟨a3, cap3, rfl, q3, F3, -⟩ := O3.fxs
      obtain ⟨wC, hwC⟩ : ∃ wC, wC = w6.alloc (.cells #[.slice a3 es.length cap3] 28) := ⟨_, rfl⟩
      have hA : Ext w6 wC := hwC ▸ (Ext.refl _).alloc _
      have x3 : wC.cell? ⟨w6.heap.size, 0, none⟩ = some (.slice a3 es.length cap3) := by rw [hwC]; exact boxed 0 rfl rfl
      replace HY := Lib.hid (HY.out.trans (hq.trans hA))
      replace F3 := Lib.hid (F3.ext hA)
      have x1 := Y1.out _ HY.out
      rw [hwC] at x1 x3
      clear hq hA KR O3 hy y3 y1 l0 l1 l2
      go_wp2_with fail
      rw [← hwC]
      clear hwC
      refine (join_impl a1 a3 cap1 cap3 ds es _ (G1.out _ HY.out) F3.out q3).mono ?_
      rintro e w7 ⟨v4, rfl, O4, hq⟩
      obtain ⟨a4, cap4, rfl, q4, F4, -⟩ := O4.fxs
      obtain ⟨ws, hws⟩ : ∃ ws, ws = joF ds es := ⟨_, rfl⟩
      obtain ⟨jc, hjc⟩ : ∃ jc, jc = joC ds es := ⟨_, rfl⟩
      rw [← hws] at F4 q4 J ⊢
      rw [← hjc] at J ⊢
      obtain ⟨wD, hwD⟩ : ∃ wD, wD = w7.alloc (.cells #[.slice a4 ws.length cap4] 28) := ⟨_, rfl⟩
      have hA : Ext w7 wD := hwD ▸ (Ext.refl _).alloc _
      have x4 : ∀ w', Ext wD w' → w'.cell? ⟨w7.heap.size, 0, none⟩ = some (.slice a4 ws.length cap4) := fun w' h => h.cellOf (by rw [hwD]; exact boxed 0 rfl rfl)
      replace HY := Lib.hid (HY.out.trans (hq.trans hA))
      replace F4 := Lib.hid (fun w' (h : Ext wD w') => F4.ext (hA.trans h))
      clear hq hA O4 hws hjc F3 x3 x1
      rcases J.out with h3 | ⟨h0, hT, hc, hX, hYY⟩
      · subst h3
        clear J x4
        go_wp2
        rw [← hwD]
        go_ret
        exact ⟨rfl, hx.out.trans (W4.out.trans HY.out)⟩
      subst h0
      have KW := Lib.hid (fun w' (h : Ext wD w') => position_impl a4 cap4 ws zt w' (F4.out w' h) q4)
      rw [hc, hX, hYY] at KW
      have TW := Lib.hid (fun w' (h : Ext wD w') => isTrack_impl a4 cap4 ws w' (F4.out w' h))
      rw [hT] at TW
      have y4 := x4 _ (Ext.refl _)
      rw [hwD] at y4
      clear J hT hc hX hYY
      go_wp2_with fail
      rw [← hwD]
      clear hwD
      refine (KW.out _ (Ext.refl _)).mono ?_
      rintro e w8 ⟨rfl, hq⟩
      obtain ⟨wE, hwE⟩ : ∃ wE, wE = w8.alloc (.cells #[.int .i64 (fx fs (fs.length - 1)).x, .int .i64 (fx fs (fs.length - 1)).y] 41) := ⟨_, rfl⟩
      have hA : Ext w8 wE := hwE ▸ (Ext.refl _).alloc _
      have PB : Box wE w8.heap.size [.int .i64 (fx fs (fs.length - 1)).x, .int .i64 (fx fs (fs.length - 1)).y] := by rw [hwE]; exact Box.new2 rfl
      have hDE := hq.trans hA
      have HE := Lib.hid (HY.out.trans hDE)
      have e0 : ∀ w', Ext wE w' → w'.cell? ⟨w8.heap.size, 0, none⟩ = some (.int .i64 (fx fs (fs.length - 1)).x) := fun w' h => h.cellOf (PB 0 _ rfl).1
      have e1 : ∀ w', Ext wE w' → w'.cell? ⟨w8.heap.size, 1, none⟩ = some (.int .i64 (fx fs (fs.length - 1)).y) := fun w' h => h.cellOf (PB 1 _ rfl).1
      have e2 : ∀ w', Ext wE w' → w'.cell? ⟨w1.heap.size, 0, none⟩ = some (.slice (some ⟨gb, 0, none⟩) fs.length tc) := fun w' h => ct w' (W4.out.trans (HE.out.trans h))
      have e3 : ∀ w', Ext wE w' → w'.cell? ⟨gb, (fs.length - 1) * 3 + 1, none⟩ = some (.int .i64 (fx fs (fs.length - 1)).x) := fun w' h => (HO.out w' (W4.out.trans (HE.out.trans h)) _ hm).2.1
      have e4 : ∀ w', Ext wE w' → w'.cell? ⟨gb, (fs.length - 1) * 3 + 2, none⟩ = some (.int .i64 (fx fs (fs.length - 1)).y) := fun w' h => (HO.out w' (W4.out.trans (HE.out.trans h)) _ hm).2.2
      have e5 : ∀ w', Ext wE w' → w'.cell? ⟨w7.heap.size, 0, none⟩ = some (.slice a4 ws.length cap4) := fun w' h => x4 w' (hDE.trans h)
      replace TW := Lib.hid (fun w' (h : Ext wE w') => TW.out w' (hDE.trans h))
      have hEE := Ext.refl wE
      clear hq hA PB hDE KW x4 y4
      go_upto_region 24 with fail
      rw [← hwE]
      clear hwE
      refine wp_region_held_drew (S := (fun w' => Ext wE w')) (by kernel_rfl) (by (try dsimp only); first | go_keep | exact (Ext.refl _).drew | exact Res.new2.drew | exact Res.new4.drew | exact ResB.drew (by assumption) | exact ResC.drew (by assumption) | assumption | exact Ext.drew (by assumption) | exact Res.drew (by assumption)) (fun hHeld => ?_)
      (refine Ord.k 0 135 (v := ?_) ?_ ?_; rotate_left; (intro w h; (try dsimp only at h); go_simp; (try with_reducible rfl)); (try simp only [Act.put, Ord.a, Ord.b, Ord.c]))
      (refine Ord.k 1 136 (v := ?_) ?_ ?_; rotate_left; (intro w h; (try dsimp only at h); go_simp; (try with_reducible rfl)); (try simp only [Act.put, Ord.a, Ord.b, Ord.c]))
      (refine Ord.k 2 137 (v := ?_) ?_ ?_; rotate_left; (intro w h; (try dsimp only at h); go_simp; (try with_reducible rfl)); (try simp only [Act.put, Ord.a, Ord.b, Ord.c]))
      (first | (refine Ord.s 3 138 ?_ ?_; rfl; (try simp only [Act.put, Ord.a, Ord.b, Ord.c])) | (refine Ord.k 3 138 (v := ?_) ?_ ?_; rotate_left; (intro w h; (try dsimp only at h); go_simp; (try with_reducible rfl)); (try simp only [Act.put, Ord.a, Ord.b, Ord.c])))
      (first | (refine Ord.s 4 139 ?_ ?_; rfl; (try simp only [Act.put, Ord.a, Ord.b, Ord.c])) | (refine Ord.k 4 139 (v := ?_) ?_ ?_; rotate_left; (intro w h; (try dsimp only at h); go_simp; (try with_reducible rfl)); (try simp only [Act.put, Ord.a, Ord.b, Ord.c])))
      (first | (refine Ord.s 5 140 ?_ ?_; rfl; (try simp only [Act.put, Ord.a, Ord.b, Ord.c])) | (refine Ord.k 5 140 (v := ?_) ?_ ?_; rotate_left; (intro w h; (try dsimp only at h); go_simp; (try with_reducible rfl)); (try simp only [Act.put, Ord.a, Ord.b, Ord.c])))
      (first | (refine Ord.s 6 141 ?_ ?_; rfl; (try simp only [Act.put, Ord.a, Ord.b, Ord.c])) | (refine Ord.k 6 141 (v := ?_) ?_ ?_; rotate_left; (intro w h; (try dsimp only at h); go_simp; (try with_reducible rfl)); (try simp only [Act.put, Ord.a, Ord.b, Ord.c])))
      (first | (refine Ord.s 7 142 ?_ ?_; rfl; (try simp only [Act.put, Ord.a, Ord.b, Ord.c])) | (refine Ord.k 7 142 (v := ?_) ?_ ?_; rotate_left; (intro w h; (try dsimp only at h); go_simp; (try with_reducible rfl)); (try simp only [Act.put, Ord.a, Ord.b, Ord.c])))
      (first | (refine Ord.s 8 143 ?_ ?_; rfl; (try simp only [Act.put, Ord.a, Ord.b, Ord.c])) | (refine Ord.k 8 143 (v := ?_) ?_ ?_; rotate_left; (intro w h; (try dsimp only at h); go_simp; (try with_reducible rfl)); (try simp only [Act.put, Ord.a, Ord.b, Ord.c])))
      (first | (refine Ord.s 9 144 ?_ ?_; rfl; (try simp only [Act.put, Ord.a, Ord.b, Ord.c])) | (refine Ord.k 9 144 (v := ?_) ?_ ?_; rotate_left; (intro w h; (try dsimp only at h); go_simp; (try with_reducible rfl)); (try simp only [Act.put, Ord.a, Ord.b, Ord.c])))
      (first | (refine Ord.s 10 145 ?_ ?_; rfl; (try simp only [Act.put, Ord.a, Ord.b, Ord.c])) | (refine Ord.k 10 145 (v := ?_) ?_ ?_; rotate_left; (intro w h; (try dsimp only at h); go_simp; (try with_reducible rfl)); (try simp only [Act.put, Ord.a, Ord.b, Ord.c])))
      (first | (refine Ord.s 11 146 ?_ ?_; rfl; (try simp only [Act.put, Ord.a, Ord.b, Ord.c])) | (refine Ord.k 11 146 (v := ?_) ?_ ?_; rotate_left; (intro w h; (try dsimp only at h); go_simp; (try with_reducible rfl)); (try simp only [Act.put, Ord.a, Ord.b, Ord.c])))
      (first | (refine Ord.s 12 147 ?_ ?_; rfl; (try simp only [Act.put, Ord.a, Ord.b, Ord.c])) | (refine Ord.k 12 147 (v := ?_) ?_ ?_; rotate_left; (intro w h; (try dsimp only at h); go_simp; (try with_reducible rfl)); (try simp only [Act.put, Ord.a, Ord.b, Ord.c])))
      (first | (refine Ord.s 13 148 ?_ ?_; rfl; (try simp only [Act.put, Ord.a, Ord.b, Ord.c])) | (refine Ord.k 13 148 (v := ?_) ?_ ?_; rotate_left; (intro w h; (try dsimp only at h); go_simp; (try with_reducible rfl)); (try simp only [Act.put, Ord.a, Ord.b, Ord.c])))
      (first | (refine Ord.s 14 149 ?_ ?_; rfl; (try simp only [Act.put, Ord.a, Ord.b, Ord.c])) | (refine Ord.k 14 149 (v := ?_) ?_ ?_; rotate_left; (intro w h; (try dsimp only at h); go_simp; (try with_reducible rfl)); (try simp only [Act.put, Ord.a, Ord.b, Ord.c])))
      (first | (refine Ord.s 15 150 ?_ ?_; rfl; (try simp only [Act.put, Ord.a, Ord.b, Ord.c])) | (refine Ord.k 15 150 (v := ?_) ?_ ?_; rotate_left; (intro w h; (try dsimp only at h); go_simp; (try with_reducible rfl)); (try simp only [Act.put, Ord.a, Ord.b, Ord.c])))
      (first | (refine Ord.s 16 151 ?_ ?_; rfl; (try simp only [Act.put, Ord.a, Ord.b, Ord.c])) | (refine Ord.k 16 151 (v := ?_) ?_ ?_; rotate_left; (intro w h; (try dsimp only at h); go_simp; (try with_reducible rfl)); (try simp only [Act.put, Ord.a, Ord.b, Ord.c])))
      (first | (refine Ord.s 17 152 ?_ ?_; rfl; (try simp only [Act.put, Ord.a, Ord.b, Ord.c])) | (refine Ord.k 17 152 (v := ?_) ?_ ?_; rotate_left; (intro w h; (try dsimp only at h); go_simp; (try with_reducible rfl)); (try simp only [Act.put, Ord.a, Ord.b, Ord.c])))
      (first | (refine Ord.s 18 153 ?_ ?_; rfl; (try simp only [Act.put, Ord.a, Ord.b, Ord.c])) | (refine Ord.k 18 153 (v := ?_) ?_ ?_; rotate_left; (intro w h; (try dsimp only at h); go_simp; (try with_reducible rfl)); (try simp only [Act.put, Ord.a, Ord.b, Ord.c])))
      (first | (refine Ord.s 19 154 ?_ ?_; rfl; (try simp only [Act.put, Ord.a, Ord.b, Ord.c])) | (refine Ord.k 19 154 (v := ?_) ?_ ?_; rotate_left; (intro w h; (try dsimp only at h); go_simp; (try with_reducible rfl)); (try simp only [Act.put, Ord.a, Ord.b, Ord.c])))
      (first | (refine Ord.s 20 155 ?_ ?_; rfl; (try simp only [Act.put, Ord.a, Ord.b, Ord.c])) | (refine Ord.k 20 155 (v := ?_) ?_ ?_; rotate_left; (intro w h; (try dsimp only at h); go_simp; (try with_reducible rfl)); (try simp only [Act.put, Ord.a, Ord.b, Ord.c])))
      (first | (refine Ord.s 21 156 ?_ ?_; rfl; (try simp only [Act.put, Ord.a, Ord.b, Ord.c])) | (refine Ord.k 21 156 (v := ?_) ?_ ?_; rotate_left; (intro w h; (try dsimp only at h); go_simp; (try with_reducible rfl)); (try simp only [Act.put, Ord.a, Ord.b, Ord.c])))
      (first | (refine Ord.s 22 157 ?_ ?_; rfl; (try simp only [Act.put, Ord.a, Ord.b, Ord.c])) | (refine Ord.k 22 157 (v := ?_) ?_ ?_; rotate_left; (intro w h; (try dsimp only at h); go_simp; (try with_reducible rfl)); (try simp only [Act.put, Ord.a, Ord.b, Ord.c])))
      (first | (refine Ord.s 23 158 ?_ ?_; rfl; (try simp only [Act.put, Ord.a, Ord.b, Ord.c])) | (refine Ord.k 23 158 (v := ?_) ?_ ?_; rotate_left; (intro w h; (try dsimp only at h); go_simp; (try with_reducible rfl)); (try simp only [Act.put, Ord.a, Ord.b, Ord.c])))
      (refine Ord.k 24 159 (v := ?_) ?_ ?_; rotate_left; (intro w h; (try dsimp only at h); go_simp; (try with_reducible rfl)); (try simp only [Act.put, Ord.a, Ord.b, Ord.c]))
      (refine Ord.k 25 160 (v := ?_) ?_ ?_; rotate_left; (intro w h; (try dsimp only at h); go_simp; (try with_reducible rfl)); (try simp only [Act.put, Ord.a, Ord.b, Ord.c]))
      (first | (refine Ord.s 26 161 ?_ ?_; rfl; (try simp only [Act.put, Ord.a, Ord.b, Ord.c])) | (refine Ord.k 26 161 (v := ?_) ?_ ?_; rotate_left; (intro w h; (try dsimp only at h); go_simp; (try with_reducible rfl)); (try simp only [Act.put, Ord.a, Ord.b, Ord.c])))
      (first | (refine Ord.s 27 162 ?_ ?_; rfl; (try simp only [Act.put, Ord.a, Ord.b, Ord.c])) | (refine wpAnyH_ready (rs := [27]) (by kernel_rfl) (by simp) ?_; refine AllReadyH.cons rfl (fun K hK => ?_) AllReadyH.nil; go_simp; (go_at_call 18; refine (TW.out _ hHeld).mono ?_; rintro e w9 ⟨rfl, hy⟩); go_wp2_with fail; (refine hK.out _ _ (by first | assumption | exact Ext.trans (by assumption) hy | exact Res.ext (by assumption) hy | exact ResB.ext (by assumption) hy | exact ResC.ext (by assumption) hy | (go_split_ands; (repeat' apply And.intro) <;> exact Ext.cellOf hy (by assumption))) (fun hHeld => ?_)); clear hK K; (try simp only [Act.put, Ord.a, Ord.b, Ord.c])))
      (refine Ord.k 28 163 (v := ?_) ?_ ?_; rotate_left; (intro w h; (try dsimp only at h); go_simp; (try with_reducible rfl)); (try simp only [Act.put, Ord.a, Ord.b, Ord.c]))
      (refine Ord.k 29 2 (v := ?_) ?_ ?_; rotate_left; (intro w h; (try dsimp only at h); go_simp; (try with_reducible rfl)); (try simp only [Act.put, Ord.a, Ord.b, Ord.c]))
      refine wpAnyH_done (by kernel_rfl) ?_ _
      have XE := Lib.hid hHeld
      clear hHeld e0 e1 e2 e3 e4 e5 hEE
      go_wp2
      go_ret
      exact ⟨rfl, hx.out.trans (W4.out.trans (HE.out.trans XE.out))⟩
end Go.Proofs.Ytnjjmoefiacbhaa.fnCutJoin
