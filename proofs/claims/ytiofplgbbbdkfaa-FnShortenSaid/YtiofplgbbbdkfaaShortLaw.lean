/- FnShorten: for every code, shortening the course that is drawn agrees with the reference model; a shortened course has the first marks and the new finish, is valid, and shortening it again at the same mark changes nothing. No condition. -/
import Derived.Test.YtiofplgbbbdkfaaDrawSh
import Derived.Test.YtiofplgbbbdkfaaBig
import Derived.Test.YtiofplgbbbdkfaaSho3
import Derived.ChangeOld
import Derived.Below
import Derived.Lib.SmallJoins
namespace Go.Proofs.Ytiofplgbbbdkfaa.fnShorten
open Go.ChangeShapes Go.WideShapes Go.ChangeAt Go.RowKit
open Go.Proofs.Ytiofplgbbbdkfaa.Kit Go.Proofs.Ytiofplgbbbdkfaa.Num Go.Proofs.Ytiofplgbbbdkfaa.Draw Go.Proofs.Ytiofplgbbbdkfaa.Pts Go.Proofs.Ytiofplgbbbdkfaa.Seg Go.Proofs.Ytiofplgbbbdkfaa.Crs
set_option linter.unusedVariables false
set_option linter.unusedSimpArgs false

theorem own_full {w : World} {base : Nat} {v : Value} {ms : List M5} (h : OwnM w base v ms) (hl : ms.length ≤ maxLen ∧ Fit ms) : ∃ a cap, v = .slice a ms.length cap ∧ Mks w a ms ∧ ms.length ≤ cap ∧ cap ≤ maxLen := by
  obtain ⟨a, cap, hv, hM⟩ := h.mks hl
  rcases h.2 with ⟨hv', hn⟩ | ⟨g, cap', cur, hv', hb, hg, hc, hm, _⟩
  · rw [hv] at hv'
    injection hv' with e1 e2 e3
    exact ⟨a, cap, hv, hM, by omega, by rw [e3]; unfold maxLen; omega⟩
  · rw [hv] at hv'
    injection hv' with e1 e2 e3
    exact ⟨a, cap, hv, hM, by omega, by omega⟩
theorem fit_take {ms : List M5} (h : Fit ms) (n : Nat) : Fit (ms.take n) := by
  intro i hi
  simp at hi
  rw [mk_take ms n i (by omega)]
  exact h i (by omega)

set_option maxRecDepth 100000 in
set_option maxHeartbeats 4000000 in
theorem w9_same (l k : L4) (a b : Option Addr) (cap cap' : Nat) (ms : List M5) (w : World) (ha : Mks w a ms) (hb : Mks w b ms) : Calls Try.prog 15 #[CV l k (.slice a ms.length cap), CV l k (.slice b ms.length cap')] w fun e w' => e = .returned (.bool true) ∧ Ext w w' := by
  have hm := ha.1.1
  unfold maxLen at hm
  obtain ⟨W0, hW0⟩ : ∃ W0, W0 = (w.alloc (.cells (cellsC l k (.slice a ms.length cap)).toArray 30)).alloc (.cells (cellsC l k (.slice b ms.length cap')).toArray 30) := ⟨_, rfl⟩
  have HW := Lib.hid (show Ext w W0 from hW0 ▸ ((Ext.refl w).alloc _).alloc _)
  have B1 := Lib.hid (show Box W0 w.heap.size (cellsC l k (.slice a ms.length cap)) from hW0 ▸ (Box.new rfl).alloc _)
  have B2 := Lib.hid (show Box W0 (w.heap.size + 1) (cellsC l k (.slice b ms.length cap')) from hW0 ▸ Box.new (by simp))
  have HA := Lib.hid (ha.ext HW.out)
  have HB := Lib.hid (hb.ext HW.out)
  clear ha hb
  obtain ⟨⟨p0, p1, p2, p3, p4, p5, p6, p7, p8⟩, _⟩ := Box.nine B1.out
  obtain ⟨⟨q0, q1, q2, q3, q4, q5, q6, q7, q8⟩, _⟩ := Box.nine B2.out
  go_enter Try.func15, Try.ntmps15
  go_wp2_with fail
  rw [← hW0]
  clear hW0
  go_wp2
  go_loopw [5] (fun i wr => RelE W0 ms.length i wr) (fun i _ => ms.length - (intOf i).toNat)
  case atStart => exact ⟨0, rfl, Nat.zero_le _, Ext.refl _⟩
  case round =>
    obtain ⟨j, rfl, hj, hx⟩ := hrel
    have HX := Lib.hid hx
    clear hx
    replace p8 := HX.out.cellOf p8
    replace q8 := HX.out.cellOf q8
    clear p0 p1 p2 p3 p4 p5 p6 p7 q0 q1 q2 q3 q4 q5 q6 q7
    by_cases hj1 : j < ms.length
    · obtain ⟨b1, o1, rfl, h1⟩ := HA.out.row (by omega)
      obtain ⟨b2, o2, rfl, h2⟩ := HB.out.row (by omega)
      obtain ⟨c0, c1, c2, c3, c4⟩ := (h1 j hj1).ext HX.out
      obtain ⟨d0, d1, d2, d3, d4⟩ := (h2 j hj1).ext HX.out
      clear h1 h2
      have i0 : (0 : Int) ≤ (j : Int) := by omega
      have i1 : (j : Int) < (ms.length : Int) := by omega
      generalize mk ms j = m at *
      have e8 : ∀ w', Ext wr w' → w'.cell? ⟨w.heap.size, 8, none⟩ = some (.slice (some ⟨b1, o1, none⟩) ms.length cap) := fun w' h => h.cellOf p8
      have f8 : ∀ w', Ext wr w' → w'.cell? ⟨w.heap.size + 1, 8, none⟩ = some (.slice (some ⟨b2, o2, none⟩) ms.length cap') := fun w' h => h.cellOf q8
      have e0 : ∀ w', Ext wr w' → w'.cell? ⟨b1, o1 + j * 5, none⟩ = some (.string m.n) := fun w' h => h.cellOf c0
      have e1 : ∀ w', Ext wr w' → w'.cell? ⟨b1, o1 + j * 5 + 1, none⟩ = some (.int .i64 m.x) := fun w' h => h.cellOf c1
      have e2 : ∀ w', Ext wr w' → w'.cell? ⟨b1, o1 + j * 5 + 2, none⟩ = some (.int .i64 m.y) := fun w' h => h.cellOf c2
      have e3 : ∀ w', Ext wr w' → w'.cell? ⟨b1, o1 + j * 5 + 3, none⟩ = some (.int .i64 m.s) := fun w' h => h.cellOf c3
      have e4 : ∀ w', Ext wr w' → w'.cell? ⟨b1, o1 + j * 5 + 4, none⟩ = some (.int .i64 m.z) := fun w' h => h.cellOf c4
      have f0 : ∀ w', Ext wr w' → w'.cell? ⟨b2, o2 + j * 5, none⟩ = some (.string m.n) := fun w' h => h.cellOf d0
      have f1 : ∀ w', Ext wr w' → w'.cell? ⟨b2, o2 + j * 5 + 1, none⟩ = some (.int .i64 m.x) := fun w' h => h.cellOf d1
      have f2 : ∀ w', Ext wr w' → w'.cell? ⟨b2, o2 + j * 5 + 2, none⟩ = some (.int .i64 m.y) := fun w' h => h.cellOf d2
      have f3 : ∀ w', Ext wr w' → w'.cell? ⟨b2, o2 + j * 5 + 3, none⟩ = some (.int .i64 m.s) := fun w' h => h.cellOf d3
      have f4 : ∀ w', Ext wr w' → w'.cell? ⟨b2, o2 + j * 5 + 4, none⟩ = some (.int .i64 m.z) := fun w' h => h.cellOf d4
      clear c0 c1 c2 c3 c4 d0 d1 d2 d3 d4
      go_wp2_with fail
      refine wp_region_held_drew (S := (fun w' => Ext wr w')) (by kernel_rfl) (by (try dsimp only); first | go_keep | exact (Ext.refl _).drew | exact Res.new2.drew | exact Res.new4.drew | exact ResB.drew (by assumption) | exact ResC.drew (by assumption) | assumption | exact Ext.drew (by assumption) | exact Res.drew (by assumption)) (fun hHeld => ?_)
      (refine Ord.takeH 0 34 (v := ?_) rfl rfl (by kernel_rfl) (by kernel_rfl) (by kernel_rfl) (fun _ _ _ h => h) (by rfl) ?_ (by assumption) ?_; rotate_left; (intro w hSw; (try dsimp only at hSw); go_simp; (first | done | with_reducible rfl)); (try simp only [Act.put, List.setIfInBounds_toArray, List.set_cons_zero, List.set_cons_succ]))
      (refine Ord.takeH 1 35 (v := ?_) rfl rfl (by kernel_rfl) (by kernel_rfl) (by kernel_rfl) (fun _ _ _ h => h) (by rfl) ?_ (by assumption) ?_; rotate_left; (intro w hSw; (try dsimp only at hSw); go_simp; (first | done | with_reducible rfl)); (try simp only [Act.put, List.setIfInBounds_toArray, List.set_cons_zero, List.set_cons_succ]))
      (refine Ord.takeH 2 36 (v := ?_) rfl rfl (by kernel_rfl) (by kernel_rfl) (by kernel_rfl) (fun _ _ _ h => h) (by rfl) ?_ (by assumption) ?_; rotate_left; (intro w hSw; (try dsimp only at hSw); go_simp; (first | done | with_reducible rfl)); (try simp only [Act.put, List.setIfInBounds_toArray, List.set_cons_zero, List.set_cons_succ]))
      (refine Ord.takeH 3 37 (v := ?_) rfl rfl (by kernel_rfl) (by kernel_rfl) (by kernel_rfl) (fun _ _ _ h => h) (by rfl) ?_ (by assumption) ?_; rotate_left; (intro w hSw; (try dsimp only at hSw); go_simp; (first | done | with_reducible rfl)); (try simp only [Act.put, List.setIfInBounds_toArray, List.set_cons_zero, List.set_cons_succ]))
      (refine Ord.takeH 4 38 (v := ?_) rfl rfl (by kernel_rfl) (by kernel_rfl) (by kernel_rfl) (fun _ _ _ h => h) (by rfl) ?_ (by assumption) ?_; rotate_left; (intro w hSw; (try dsimp only at hSw); go_simp; (first | done | with_reducible rfl)); (try simp only [Act.put, List.setIfInBounds_toArray, List.set_cons_zero, List.set_cons_succ]))
      (refine Ord.takeH 5 39 (v := ?_) rfl rfl (by kernel_rfl) (by kernel_rfl) (by kernel_rfl) (fun _ _ _ h => h) (by rfl) ?_ (by assumption) ?_; rotate_left; (intro w hSw; (try dsimp only at hSw); go_simp; (first | done | with_reducible rfl)); (try simp only [Act.put, List.setIfInBounds_toArray, List.set_cons_zero, List.set_cons_succ]))
      (refine Ord.takeH 6 40 (v := ?_) rfl rfl (by kernel_rfl) (by kernel_rfl) (by kernel_rfl) (fun _ _ _ h => h) (by rfl) ?_ (by assumption) ?_; rotate_left; (intro w hSw; (try dsimp only at hSw); go_simp; (first | done | with_reducible rfl)); (try simp only [Act.put, List.setIfInBounds_toArray, List.set_cons_zero, List.set_cons_succ]))
      (refine Ord.takeH 7 41 (v := ?_) rfl rfl (by kernel_rfl) (by kernel_rfl) (by kernel_rfl) (fun _ _ _ h => h) (by rfl) ?_ (by assumption) ?_; rotate_left; (intro w hSw; (try dsimp only at hSw); go_simp; (first | done | with_reducible rfl)); (try simp only [Act.put, List.setIfInBounds_toArray, List.set_cons_zero, List.set_cons_succ]))
      (refine Ord.takeH 8 42 (v := ?_) rfl rfl (by kernel_rfl) (by kernel_rfl) (by kernel_rfl) (fun _ _ _ h => h) (by rfl) ?_ (by assumption) ?_; rotate_left; (intro w hSw; (try dsimp only at hSw); go_simp; (first | done | with_reducible rfl)); (try simp only [Act.put, List.setIfInBounds_toArray, List.set_cons_zero, List.set_cons_succ]))
      (refine Ord.takeH 9 43 (v := ?_) rfl rfl (by kernel_rfl) (by kernel_rfl) (by kernel_rfl) (fun _ _ _ h => h) (by rfl) ?_ (by assumption) ?_; rotate_left; (intro w hSw; (try dsimp only at hSw); go_simp; (first | done | with_reducible rfl)); (try simp only [Act.put, List.setIfInBounds_toArray, List.set_cons_zero, List.set_cons_succ]))
      (refine Ord.takeH 10 44 (v := ?_) rfl rfl (by kernel_rfl) (by kernel_rfl) (by kernel_rfl) (fun _ _ _ h => h) (by rfl) ?_ (by assumption) ?_; rotate_left; (intro w hSw; (try dsimp only at hSw); go_simp; (first | done | with_reducible rfl)); (try simp only [Act.put, List.setIfInBounds_toArray, List.set_cons_zero, List.set_cons_succ]))
      refine wpAnyH_done (by kernel_rfl) ?_ _
      have HX2 := Lib.hid (HX.out.trans hHeld)
      clear hHeld e0 e1 e2 e3 e4 f0 f1 f2 f3 f4 e8 f8
      go_wp2
      go_roundw
      case rel => exact ⟨j + 1, by go_num, by omega, HX2.out⟩
      case measure => simp [intOf]; omega
    · obtain rfl : j = ms.length := by omega
      go_wp2
      go_ret
      exact ⟨rfl, HW.out.trans HX.out⟩

/-- A course that was shortened at a mark is shortened there again: nothing changes. -/
theorem sh_again {l k f : L4} {ms : List M5} {q : Int} (h : shC l k f ms q = 0) :
    (1 ≤ q ∧ q ≤ ms.length) ∧ crB l f (ms.take q.toNat) = true ∧ ((ms.take q.toNat).length : Int) = q ∧ shC l f f (ms.take q.toNat) q = 0 ∧ (ms.take q.toNat).take q.toNat = ms.take q.toNat := by
  unfold shC at h
  by_cases h1 : crB l k ms = true
  · rw [if_pos h1] at h
    by_cases h2 : 1 ≤ q ∧ q ≤ ms.length
    · rw [if_pos h2] at h
      by_cases h3 : crB l f (ms.take q.toNat) = true
      · have e : (ms.take q.toNat).take q.toNat = ms.take q.toNat := by rw [List.take_take, Nat.min_self]
        have hl : ((ms.take q.toNat).length : Int) = q := by simp; omega
        refine ⟨h2, h3, hl, ?_, e⟩
        unfold shC
        rw [if_pos h3, if_pos ⟨h2.1, by omega⟩, e, if_pos h3]
      · rw [if_neg h3] at h; omega
    · rw [if_neg h2] at h; omega
  · rw [if_neg h1] at h; omega

set_option maxRecDepth 100000 in
set_option maxHeartbeats 8000000 in
theorem walk (c0 : Option Addr) (len cap : Nat) (zs : List Int) (w : World) (hr : IsRow .u8 w c0 len cap zs) :
    Calls Try.prog 4 #[.slice c0 len cap] w fun e w' => e = .returned (.bool true) ∧ Ext w w' := by
  have HB := Lib.hid hr.bytes
  clear hr
  by_cases hl : 4096 < len
  · have g := show bigB len = true from decide_eq_true hl
    go_enter Try.func4, Try.ntmps4
    go_wp2_with (go_at_call 5; refine (big_any _ _ _ _).mono ?_; rintro e w' ⟨rfl, rfl⟩)
    go_ret
    exact ⟨rfl, Ext.refl _⟩
  have g := show bigB len = false from decide_eq_false hl
  go_enter Try.func4, Try.ntmps4
  go_wp2_with fail
  refine (big_any _ _ _ _).mono ?_
  rintro e w' ⟨rfl, rfl⟩
  go_wp2_with fail
  refine (drawShortenCourse_any c0 len cap _ HB.out (by omega)).mono ?_
  rintro e w1 ⟨l, k, v, ms, q, fa, fb, fc, fd, rfl, h9, hFit, hO, hx⟩
  obtain ⟨ao, mc, rfl, hM, hmc, hmx⟩ := own_full hO ⟨by unfold maxLen; omega, hFit⟩
  obtain ⟨W, hW⟩ : ∃ W, W = (w1.alloc (.cells (cellsC l k (.slice ao ms.length mc)).toArray 30)).alloc (.cells #[.int .i64 fa, .int .i64 fb, .int .i64 fc, .int .i64 fd] 27) := ⟨_, rfl⟩
  have hw1 : Ext w1 W := hW ▸ ((Ext.refl w1).alloc _).alloc _
  have CB := Lib.hid (show Box W w1.heap.size (cellsC l k (.slice ao ms.length mc)) by rw [hW]; exact (Box.new rfl).alloc _)
  have LB := Lib.hid (show Box W (w1.heap.size + 1) [.int .i64 fa, .int .i64 fb, .int .i64 fc, .int .i64 fd] by rw [hW]; exact Box.new4 (by simp))
  have HM := Lib.hid (hM.ext hw1)
  replace hx := Lib.hid (hx.trans hw1)
  have HN := Lib.hid h9
  have HFit := Lib.hid hFit
  obtain ⟨f, hf⟩ : ∃ f : L4, f = ⟨fa, fb, fc, fd⟩ := ⟨_, rfl⟩
  clear HB g hl hFit hO hM hw1
  have KP := Lib.hid (fun w' (h : Mks w' ao ms) => shorten_impl l k ⟨fa, fb, fc, fd⟩ ao mc ms q w' h hmc hmx)
  have KS := Lib.hid (fun w' (h : Mks w' ao ms) => shorten_spec l k ⟨fa, fb, fc, fd⟩ ao mc ms q w' h hmc hmx)
  rw [← hf] at KP KS
  replace hf := Lib.hid hf
  replace hmc := Lib.hid hmc
  replace hmx := Lib.hid hmx
  obtain ⟨⟨i0, i1, i2, i3, i4, i5, i6, i7, i8⟩, _⟩ := Box.nine CB.out
  obtain ⟨⟨j0, j1, j2, j3⟩, _⟩ := LB.out.four
  have eL : LV f = Sg fa fb fc fd := by rw [hf.out]
  rw [eL] at KP KS
  obtain ⟨sl, hsl⟩ : ∃ x, x = shL l k f ms q := ⟨_, rfl⟩
  obtain ⟨sf, hsf⟩ : ∃ x, x = shF l k f ms q := ⟨_, rfl⟩
  obtain ⟨sm, hsm⟩ : ∃ x, x = shM l k f ms q := ⟨_, rfl⟩
  obtain ⟨ck, hck⟩ : ∃ x, x = shC l k f ms q := ⟨_, rfl⟩
  have FT := Lib.hid (show Fit sm by rw [hsm]; unfold shM; split; exact fit_take HFit.out _; exact fun i hi => absurd hi (by simp))
  have FL := Lib.hid (show sm.length ≤ 9 by rw [hsm]; unfold shM; split; (have := HN.out; simp; omega); simp)
  replace hsl := Lib.hid hsl
  replace hsf := Lib.hid hsf
  replace hsm := Lib.hid hsm
  replace hck := Lib.hid hck
  clear h9
  go_wp2_with fail
  rw [← hW]
  clear hW
  refine (KP.out _ HM.out).mono ?_
  rintro e w2 ⟨v1, rfl, O1, hy⟩
  rw [← hsm.out] at O1
  obtain ⟨a1, c1, rfl, M1, hc1, hx1⟩ := own_full O1 ⟨by unfold maxLen; have := FL.out; omega, FT.out⟩
  rw [← hsl.out, ← hsf.out, ← hck.out]
  have X1 := Lib.hid (Box.new (w := w2) (n := w2.heap.size) (vs := cellsC sl sf (.slice a1 sm.length c1)) (t := 30) rfl)
  have hz := (Ext.refl w2).alloc (.cells (cellsC sl sf (.slice a1 sm.length c1)).toArray 30)
  replace M1 := Lib.hid (M1.ext hz)
  replace hy := hy.trans hz
  replace CB := Lib.hid (CB.out.ext hy); replace LB := Lib.hid (LB.out.ext hy); replace HM := Lib.hid (HM.out.ext hy); replace hx := Lib.hid (hx.out.trans hy)
  replace hc1 := Lib.hid hc1
  replace hx1 := Lib.hid hx1
  clear hy hz O1 i0 i1 i2 i3 i4 i5 i6 i7 i8 j0 j1 j2 j3 KP
  obtain ⟨⟨i0, i1, i2, i3, i4, i5, i6, i7, i8⟩, _⟩ := Box.nine CB.out
  obtain ⟨⟨j0, j1, j2, j3⟩, _⟩ := LB.out.four
  go_wp2_with fail
  refine (KS.out _ HM.out).mono ?_
  rintro e w3 ⟨v2, rfl, O2, hy⟩
  rw [← hsm.out] at O2
  obtain ⟨a2, c2, rfl, M2, hc2, hx2⟩ := own_full O2 ⟨by unfold maxLen; have := FL.out; omega, FT.out⟩
  rw [← hsl.out, ← hsf.out, ← hck.out]
  have X2 := Lib.hid (Box.new (w := w3) (n := w3.heap.size) (vs := cellsC sl sf (.slice a2 sm.length c2)) (t := 30) rfl)
  have hz := (Ext.refl w3).alloc (.cells (cellsC sl sf (.slice a2 sm.length c2)).toArray 30)
  replace M2 := Lib.hid (M2.ext hz)
  replace hy := hy.trans hz
  replace X1 := Lib.hid (X1.out.ext hy); replace M1 := Lib.hid (M1.out.ext hy); replace LB := Lib.hid (LB.out.ext hy); replace hx := Lib.hid (hx.out.trans hy)
  clear hy hz O2 i0 i1 i2 i3 i4 i5 i6 i7 i8 j0 j1 j2 j3 KS hc2 hx2 CB HM
  have K9 := Lib.hid (fun w' (h : Mks w' a1 sm) (h2 : Mks w' a2 sm) => w9_same sl sf a1 a2 c1 c2 sm w' h h2)
  obtain ⟨⟨p0, p1, p2, p3, p4, p5, p6, p7, p8⟩, _⟩ := Box.nine X1.out
  obtain ⟨⟨q0, q1, q2, q3, q4, q5, q6, q7, q8⟩, _⟩ := Box.nine X2.out
  go_wp2_with fail
  refine (K9.out _ M1.out M2.out).mono ?_
  rintro e w4 ⟨rfl, hy⟩
  replace X1 := Lib.hid (X1.out.ext hy); replace M1 := Lib.hid (M1.out.ext hy); replace LB := Lib.hid (LB.out.ext hy); replace hx := Lib.hid (hx.out.trans hy)
  clear hy K9 M2 X2 p0 p1 p2 p3 p4 p5 p6 p7 p8 q0 q1 q2 q3 q4 q5 q6 q7 q8
  by_cases hk : ck = 0
  rotate_left
  · have t0 : (ck == 0) = false := beq_eq_false_iff_ne.2 hk
    go_wp2
    go_ret
    exact ⟨rfl, hx.out⟩
  subst hk
  have h0 : shC l k f ms q = 0 := hck.out.symm
  obtain ⟨g1, g2, g3⟩ := sh_good h0
  obtain ⟨s1, s2, s3, s4, s5⟩ := sh_again h0
  have el : sl = l := hsl.out.trans g1
  have ef : sf = ⟨fa, fb, fc, fd⟩ := (hsf.out.trans g2).trans hf.out
  have em : sm = ms.take q.toNat := hsm.out.trans g3
  have ff : f = ⟨fa, fb, fc, fd⟩ := hf.out
  rw [ff] at s2 s4
  rw [← el, ← em] at s2 s4
  rw [← em] at s3 s5
  clear hck hsl hsf hsm hf h0 g1 g2 g3 el em ff
  subst ef
  obtain ⟨r1, r2, r3⟩ := sh_good s4
  have KA := Lib.hid (fun w' (h : Mks w' a1 sm) => shorten_impl sl ⟨fa, fb, fc, fd⟩ ⟨fa, fb, fc, fd⟩ a1 c1 sm q w' h hc1.out hx1.out)
  have R := Lib.hid (And.intro r1 (And.intro r2 (And.intro r3 s4)))
  have R5 := Lib.hid s5
  have KI := Lib.hid (fun w' (h : Mks w' a1 sm) => isCourse_impl sl ⟨fa, fb, fc, fd⟩ a1 c1 sm w' h)
  rw [s2] at KI
  clear r1 r2 r3 s4 s5 s2 s1
  obtain ⟨⟨p0, p1, p2, p3, p4, p5, p6, p7, p8⟩, _⟩ := Box.nine X1.out
  obtain ⟨⟨j0, j1, j2, j3⟩, _⟩ := LB.out.four
  go_wp2_with fail
  refine (KA.out _ M1.out).mono ?_
  rintro e w5 ⟨v3, rfl, O3, hy⟩
  rw [R.out.1, R.out.2.1, R.out.2.2.2]
  rw [R.out.2.2.1, R5.out] at O3
  obtain ⟨a3, c3, rfl, M3, _, _⟩ := own_full O3 ⟨by unfold maxLen; have := FL.out; omega, FT.out⟩
  have X3 := Lib.hid (Box.new (w := w5) (n := w5.heap.size) (vs := cellsC sl ⟨fa, fb, fc, fd⟩ (.slice a3 sm.length c3)) (t := 30) rfl)
  have hz := (Ext.refl w5).alloc (.cells (cellsC sl ⟨fa, fb, fc, fd⟩ (.slice a3 sm.length c3)).toArray 30)
  replace M3 := Lib.hid (M3.ext hz)
  replace hy := hy.trans hz
  replace X1 := Lib.hid (X1.out.ext hy); replace M1 := Lib.hid (M1.out.ext hy); replace LB := Lib.hid (LB.out.ext hy); replace hx := Lib.hid (hx.out.trans hy)
  clear hy hz O3 p0 p1 p2 p3 p4 p5 p6 p7 p8 j0 j1 j2 j3 KA R R5
  obtain ⟨⟨p0, p1, p2, p3, p4, p5, p6, p7, p8⟩, _⟩ := Box.nine X1.out
  obtain ⟨⟨q0, q1, q2, q3, q4, q5, q6, q7, q8⟩, _⟩ := Box.nine X3.out
  have K9 := Lib.hid (fun w' (h : Mks w' a3 sm) (h2 : Mks w' a1 sm) => w9_same sl ⟨fa, fb, fc, fd⟩ a3 a1 c3 c1 sm w' h h2)
  go_wp2_with fail
  refine (K9.out _ M3.out M1.out).mono ?_
  rintro e w6 ⟨rfl, hy⟩
  replace X1 := Lib.hid (X1.out.ext hy); replace M1 := Lib.hid (M1.out.ext hy); replace LB := Lib.hid (LB.out.ext hy); replace hx := Lib.hid (hx.out.trans hy)
  clear hy p0 p1 p2 p3 p4 p5 p6 p7 p8 q0 q1 q2 q3 q4 q5 q6 q7 q8 K9 M3 X3
  obtain ⟨⟨p0, p1, p2, p3, p4, p5, p6, p7, p8⟩, _⟩ := Box.nine X1.out
  go_wp2_with fail
  refine (KI.out _ M1.out).mono ?_
  rintro e w7 ⟨rfl, hy⟩
  replace X1 := Lib.hid (X1.out.ext hy); replace LB := Lib.hid (LB.out.ext hy); replace hx := Lib.hid (hx.out.trans hy)
  clear hy p0 p1 p2 p3 p4 p5 p6 p7 p8 KI M1
  obtain ⟨⟨p0, p1, p2, p3, p4, p5, p6, p7, p8⟩, _⟩ := Box.nine X1.out
  obtain ⟨⟨j0, j1, j2, j3⟩, _⟩ := LB.out.four
  have tq : ((sm.length : Int) == q) = true := beq_iff_eq.2 s3
  go_wp2
  go_ret
  exact ⟨rfl, hx.out⟩

theorem own : ownKnob Try.prog.godebug = none := by kernel_rfl
theorem laidOut : laidOutB Try.prog = true := by kernel_rfl

set_option maxRecDepth 100000 in
theorem lifted (os : Os) (started : os.Started) (H : Type) (enc : TypeId × Value → H) :
    ReturnsInHanded {} Try.checked os 4 .any (Rows.fnShortenSpec.pre6 enc Try.prog Try.f4 Rows.fnShortenRow.domain false) (Rows.fnShortenSpec.post enc Try.prog Try.f4 false true false false) := by
  refine returnsInHanded_of_change (C := Try.checked) own started (by kernel_rfl) Try.func4
    (ChangeSpec.witness6 (enc := enc) (C := Try.checked) false ⟨#[], #[.slice none 0 0], []⟩ 8 (by kernel_rfl) (by kernel_rfl) (by kernel_rfl) (by kernel_rfl)) ?_
  intro W base args ds gs before hval0 hW hcnd _
  have hval : ∀ (j : Nat) t v, Try.f4.params[j]? = some t → args[j]? = some v → Value.okWide Try.prog W .any base t v := hval0
  have hW' := hW
  obtain ⟨p, q, hA0, hV, rfl, hfz, hnd⟩ := hW
  have hA : DataW.TrodAll enc Try.prog W 0 (fun _ => true) true Try.f4.params.toList args.toList ds p := hA0
  rw [Try.params4] at hA hval
  obtain ⟨v0, vs0, d0, ds0, p0, q0, hargs, rfl, rfl, h0, r0⟩ := trodAll_cons hA
  obtain ⟨rfl, rfl, rfl⟩ := trodAll_nil r0
  obtain rfl : args = #[v0] := by cases args; simp_all
  obtain ⟨rfl, rfl⟩ := trodVars_none hV
  have k0 := h0
  have lt0 : ∀ x ∈ p0, x.block < W.heap.size := by obtain ⟨m, hm⟩ := k0; exact DataW.trod_lt m _ _ _ hm
  obtain ⟨a0, len0, cap0, rfl⟩ := okWide_slice Try.underlying22 (hval 0 22 v0 rfl rfl)
  obtain ⟨z0, w0⟩ : ∃ zs, IsRow .u8 W a0 len0 cap0 zs := by
    obtain ⟨fuel, hf⟩ := h0
    rcases open_ints Try.underlying22 Try.underlying5 (by kernel_rfl) hf with ⟨hcs, _⟩ | ⟨x, l, c, zs, hcs, _, hl, hm, hz, _, hcell, hwz⟩
    · simp [Value.cells] at hcs
      obtain ⟨rfl, rfl, rfl⟩ := hcs
      exact ⟨[], .inl ⟨rfl, rfl, rfl, rfl⟩⟩
    · simp [Value.cells] at hcs
      obtain ⟨rfl, rfl, rfl⟩ := hcs
      exact ⟨zs, .inr ⟨_, rfl, hl, hm, by simpa using hz, hcell, hwz⟩⟩
  clear hA0 hval0
  refine (walk a0 len0 cap0 z0 W w0).mono fun e W' ⟨he, hx⟩ => ?_
  have bel := hx.below
  subst he
  exact ⟨_, rfl, _, _, _, [], _, [], hW', trodAll_mk1 (shut_bool Try.underlying4 _), (trodAll_cons_mk (Below.trod laidOut (by kernel_rfl) (of_decide_eq_true (by kernel_rfl)) k0 bel lt0) trodAll_mk0), rfl, bel.frame _, fun h => by cases h⟩

theorem proved : Rows.FnShortenSaid :=
  OpenClaim.holds_of_wide 4 Try.f4 rfl rfl rfl rfl rfl rfl rfl ⟨rfl, rfl, rfl, rfl, rfl⟩ rfl rfl rfl rfl rfl (by kernel_rfl) Try.func4 (by kernel_rfl)
    (of_decide_eq_true (by kernel_rfl)) (by unfold Func.isWrapper; first | (rw [if_pos (by decide +kernel)]; kernel_rfl) | (rw [if_neg (by decide +kernel)]; exact ⟨rfl, rfl⟩))
    (fun os started H enc _ => lifted os started H enc)

end Go.Proofs.Ytiofplgbbbdkfaa.fnShorten
