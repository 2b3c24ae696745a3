/- FnCompareCrossings: for every code, the comparison of the crossings that are drawn agrees with the reference model, is antisymmetric, finds a crossing equal to itself, and one on a leg that begins after the other leg has ended later. No condition. -/
import Derived.Test.YtccggjhmnbebbaaDrawCx
import Derived.Test.YtccggjhmnbebbaaBase
import Derived.Test.YtccggjhmnbebbaaMom4
import Derived.Deep.DeepCutAuto
import Derived.ChangeOld
import Derived.Below
import Derived.Lib.SmallJoins
namespace Go.Proofs.Ytccggjhmnbebbaa.fnCompareCrossings
open Go.ChangeShapes Go.WideShapes Go.ChangeAt Go.RowKit
open Go.Proofs.Ytccggjhmnbebbaa.Kit Go.Proofs.Ytccggjhmnbebbaa.Num Go.Proofs.Ytccggjhmnbebbaa.Draw Go.Proofs.Ytccggjhmnbebbaa.Pts Go.Proofs.Ytccggjhmnbebbaa.Seg Go.Proofs.Ytccggjhmnbebbaa.Trk Go.Proofs.Ytccggjhmnbebbaa.Cmp
set_option linter.unusedVariables false
set_option linter.unusedSimpArgs false

theorem sgn_neg (n : Int) : sgn (-n) = -sgn n := by
  unfold sgn
  split <;> split <;> (try split) <;> omega
theorem cmp_neg (x y : Int) : cmpZ y x = -cmpZ x y := by
  unfold cmpZ
  split <;> split <;> (try split) <;> omega
theorem cmI_neg (w1 r1 y1 w2 r2 y2 : Int) : cmI w2 r2 y2 w1 r1 y1 = -cmI w1 r1 y1 w2 r2 y2 := by
  by_cases h : w1 = w2
  · rw [cmI_same h.symm, cmI_same h, cmp_neg]
  · rw [cmI_diff (fun e => h e.symm), cmI_diff h, ← sgn_neg, show -(w1 - w2) = w2 - w1 by omega]
theorem cmI_self (w r y : Int) : cmI w r y w r y = 0 := by
  rw [cmI_same rfl]
  unfold cmpZ
  rw [if_neg (by omega), if_neg (by omega)]
theorem cc_parts {fs gs : List F3} {l l2 x y u v : Int} (h : ccC fs gs l l2 x y u v = 0) : trB fs = true ∧ trB gs = true ∧ hmB fs l x y = true ∧ hmB gs l2 u v = true := by
  cases h1 : trB fs
  · rw [ccC_one (by rw [h1]; rfl)] at h; omega
  · cases h2 : trB gs
    · rw [ccC_one (by rw [h1, h2]; rfl)] at h; omega
    · cases h3 : hmB fs l x y
      · rw [ccC_two h1 h2 (by rw [h3]; rfl)] at h; omega
      · cases h4 : hmB gs l2 u v
        · rw [ccC_two h1 h2 (by rw [h3, h4]; rfl)] at h; omega
        · exact ⟨rfl, rfl, rfl, rfl⟩
/-- One on a leg that begins after the other leg has ended is later. -/
theorem later {fs gs : List F3} {k j : Nat} {x y u v : Int} (h1 : trB fs = true) (h2 : trB gs = true) (hk : k + 1 < fs.length) (hj : j + 1 < gs.length) (k1 : 0 ≤ x) (k2 : x ≤ y) (d1 : 1 ≤ y) (l1 : 0 ≤ u) (l2 : u ≤ v) (m1 : 1 ≤ v)
    (h : ¬ (fx fs k).t ≤ (fx gs (j + 1)).t) : 0 < ecI fs gs k j x y u v := by
  have B1 := mom_bd h1 hk k1 k2 d1
  have B2 := mom_bd h2 hj l1 l2 m1
  have e2 : (fx gs (j + 1)).t = (fx gs j).t + durI gs j := by unfold durI; omega
  unfold ecI
  have g : 0 < mwI fs k x y - mwI gs j u v := by unfold mwI; omega
  rw [cmI_diff (by omega)]
  unfold sgn
  rw [if_neg (by omega), if_pos g]; omega

set_option maxRecDepth 100000 in
set_option maxHeartbeats 8000000 in
theorem walk (c0 : Option Addr) (len cap : Nat) (zs : List Int) (w : World) (hr : IsRow .u8 w c0 len cap zs) :
    Calls Try.prog 5 #[.slice c0 len cap] w fun e w' => e = .returned (.bool true) ∧ Ext w w' := by
  have HB := Lib.hid hr.bytes
  clear hr
  by_cases hl : 4096 < len
  · have g := show bigB len = true from decide_eq_true hl
    go_enter Try.func5, Try.ntmps5
    go_wp2_with (go_at_call 6; refine (big_any _ _ _ _).mono ?_; rintro e w' ⟨rfl, rfl⟩)
    go_ret
    exact ⟨rfl, Ext.refl _⟩
  have g := show bigB len = false from decide_eq_false hl
  go_enter Try.func5, Try.ntmps5
  go_wp2_with fail
  refine (big_any _ _ _ _).mono ?_
  rintro e w' ⟨rfl, rfl⟩
  go_wp2_with fail
  refine (drawCompareCrossings_any c0 len cap _ HB.out (by omega)).mono ?_
  rintro e w1 ⟨ga, ca, n, gb, cb, n2, t, l, d, x, y, t2, l2, d2, u, v, rfl, h41, h42, hI, hI2, hx⟩
  obtain ⟨fs, rfl, hO⟩ := hI.own
  obtain ⟨gs, rfl, hP⟩ := hI2.own
  obtain ⟨W, hW⟩ : ∃ W, W = (((w1.alloc (.cells #[.slice (some ⟨ga, 0, none⟩) fs.length ca] 26)).alloc (.cells #[.int .i64 t, .int .i64 l, .int .i64 d, .int .i64 x, .int .i64 y] 42)).alloc (.cells #[.slice (some ⟨gb, 0, none⟩) gs.length cb] 26)).alloc (.cells #[.int .i64 t2, .int .i64 l2, .int .i64 d2, .int .i64 u, .int .i64 v] 42) := ⟨_, rfl⟩
  have h1W : Ext w1 W := hW ▸ ((((Ext.refl _).alloc _).alloc _).alloc _).alloc _
  have B1 := Lib.hid (show Box W w1.heap.size [.slice (some ⟨ga, 0, none⟩) fs.length ca] by rw [hW]; exact (((Box.new rfl).alloc _).alloc _).alloc _)
  have B2 := Lib.hid (show Box W (w1.heap.size + 1) [.int .i64 t, .int .i64 l, .int .i64 d, .int .i64 x, .int .i64 y] by rw [hW]; exact ((Box.new5 (by simp)).alloc _).alloc _)
  have B3 := Lib.hid (show Box W (w1.heap.size + 1 + 1) [.slice (some ⟨gb, 0, none⟩) gs.length cb] by rw [hW]; exact (Box.new (vs := [.slice (some ⟨gb, 0, none⟩) gs.length cb]) (by simp)).alloc _)
  have B4 := Lib.hid (show Box W (w1.heap.size + 1 + 1 + 1) [.int .i64 t2, .int .i64 l2, .int .i64 d2, .int .i64 u, .int .i64 v] by rw [hW]; exact Box.new5 (by simp))
  have hFx := hO.fxs (by unfold maxLen; omega)
  have hGx := hP.fxs (by unfold maxLen; omega)
  have hF := Lib.hid (fun w' (h : Ext W w') => hFx.ext (h1W.trans h))
  have hG := Lib.hid (fun w' (h : Ext W w') => hGx.ext (h1W.trans h))
  have HO := Lib.hid (fun w' (h : Ext W w') j (hj : j < fs.length) => ((hO j hj).1).ext (h1W.trans h))
  have HP := Lib.hid (fun w' (h : Ext W w') j (hj : j < gs.length) => ((hP j hj).1).ext (h1W.trans h))
  replace hx := Lib.hid (hx.trans h1W)
  clear HB g hl hI hI2 hO hP hFx hGx h1W
  have KP := Lib.hid (fun w' (h : Ext W w') => compareCrossings_impl (some ⟨ga, 0, none⟩) (some ⟨gb, 0, none⟩) ca cb fs gs t l d x y t2 l2 d2 u v w' (hF.out w' h) (hG.out w' h))
  have KS := Lib.hid (fun w' (h : Ext W w') => compareCrossings_spec (some ⟨ga, 0, none⟩) (some ⟨gb, 0, none⟩) ca cb fs gs t l d x y t2 l2 d2 u v w' (hF.out w' h) (hG.out w' h))
  have KB := Lib.hid (fun w' (h : Ext W w') => compareCrossings_impl (some ⟨gb, 0, none⟩) (some ⟨ga, 0, none⟩) cb ca gs fs t2 l2 d2 u v t l d x y w' (hG.out w' h) (hF.out w' h))
  have KT := Lib.hid (fun w' (h : Ext W w') => compareCrossings_impl (some ⟨ga, 0, none⟩) (some ⟨ga, 0, none⟩) ca ca fs fs t l d x y t l d x y w' (hF.out w' h) (hF.out w' h))
  clear hF hG
  have e1 := (B1.out 0 _ rfl).1
  obtain ⟨⟨e2, e3, e4, e5, e6⟩, _⟩ := B2.out.five
  have e7 := (B3.out 0 _ rfl).1
  obtain ⟨⟨e8, e9, e10, e11, e12⟩, _⟩ := B4.out.five
  obtain ⟨N, hN⟩ : ∃ N, N = ccQ fs gs l l2 x y u v := ⟨_, rfl⟩
  obtain ⟨C, hC⟩ : ∃ C, C = ccC fs gs l l2 x y u v := ⟨_, rfl⟩
  rw [← hN, ← hC] at KP KS
  replace hN := Lib.hid hN
  replace hC := Lib.hid hC
  go_wp2_with fail
  rw [← hW]
  clear hW
  refine (KP.out _ (Ext.refl _)).mono ?_
  rintro e w2 ⟨rfl, hy⟩
  replace e1 := hy.cellOf e1; replace e2 := hy.cellOf e2; replace e3 := hy.cellOf e3; replace e4 := hy.cellOf e4; replace e5 := hy.cellOf e5; replace e6 := hy.cellOf e6
  replace e7 := hy.cellOf e7; replace e8 := hy.cellOf e8; replace e9 := hy.cellOf e9; replace e10 := hy.cellOf e10; replace e11 := hy.cellOf e11; replace e12 := hy.cellOf e12
  have hw := Lib.hid hy
  clear hy KP
  go_wp2_with fail
  refine (KS.out _ hw.out).mono ?_
  rintro e w3 ⟨rfl, hy⟩
  replace e1 := hy.cellOf e1; replace e2 := hy.cellOf e2; replace e3 := hy.cellOf e3; replace e4 := hy.cellOf e4; replace e5 := hy.cellOf e5; replace e6 := hy.cellOf e6
  replace e7 := hy.cellOf e7; replace e8 := hy.cellOf e8; replace e9 := hy.cellOf e9; replace e10 := hy.cellOf e10; replace e11 := hy.cellOf e11; replace e12 := hy.cellOf e12
  replace hw := Lib.hid (hw.out.trans hy)
  clear hy KS
  by_cases hk0 : C = 0
  rotate_left
  · have t0 : (C == 0) = false := beq_eq_false_iff_ne.2 hk0
    clear hk0 e1 e2 e3 e4 e5 e6 e7 e8 e9 e10 e11 e12
    go_wp2
    go_ret
    exact ⟨rfl, hx.out.trans hw.out⟩
  subst hk0
  obtain ⟨v1, v2, m1, m2⟩ := cc_parts hC.out.symm
  obtain ⟨⟨a0, a1⟩, a2, a3, a4, a5⟩ := hmB_yes m1
  obtain ⟨⟨b0, b1⟩, b2, b3, b4, b5⟩ := hmB_yes m2
  obtain ⟨k, rfl⟩ : ∃ k : Nat, l = k := ⟨l.toNat, by omega⟩
  obtain ⟨j, rfl⟩ : ∃ j : Nat, l2 = j := ⟨l2.toNat, by omega⟩
  have hk : k + 1 < fs.length := by omega
  have hj : j + 1 < gs.length := by omega
  have qN : N = ecI fs gs k j x y u v := hN.out.trans (ccQ_yes hC.out.symm)
  have cB : ccC gs fs j k u v x y = 0 := ccC_none v2 v1 (by rw [m1, m2]; rfl)
  have cT : ccC fs fs k k x y x y = 0 := ccC_none v1 v1 (by rw [m1]; rfl)
  have qB : ccQ gs fs j k u v x y = -N := by
    rw [ccQ_yes cB, qN]; unfold ecI; exact cmI_neg _ _ _ _ _ _
  have qT : ccQ fs fs k k x y x y = 0 := by
    rw [ccQ_yes cT]; unfold ecI; exact cmI_self _ _ _
  rw [qB, cB] at KB
  rw [qT, cT] at KT
  have NB : -1 ≤ N ∧ N ≤ 1 := by
    rw [qN]; unfold ecI
    by_cases h : mwI fs k x y = mwI gs j u v
    · rw [cmI_same h]; exact cmpZ_bd _ _
    · rw [cmI_diff h]
      rcases Int.lt_trichotomy (mwI fs k x y - mwI gs j u v) 0 with g | g | g
      · unfold sgn; rw [if_pos g]; decide
      · omega
      · unfold sgn; rw [if_neg (by omega), if_pos g]; decide
  have HLt := Lib.hid (fun (h : ¬ (fx fs k).t ≤ (fx gs (j + 1)).t) => show 0 < N by rw [qN]; exact later v1 v2 hk hj a2 a3 a4 b2 b3 b4 h)
  have E1 : IntKind.i64.wrap (-N) = -N := IntWalk.i64_in _ (by omega)
  clear hN hC v1 v2 m1 m2 a0 a1 a2 a3 a4 a5 b0 b1 b2 b3 b4 b5 qN cB cT qB qT NB
  go_wp2_with fail
  refine (KB.out _ hw.out).mono ?_
  rintro e w4 ⟨rfl, hy⟩
  replace e1 := hy.cellOf e1; replace e2 := hy.cellOf e2; replace e3 := hy.cellOf e3; replace e4 := hy.cellOf e4; replace e5 := hy.cellOf e5; replace e6 := hy.cellOf e6
  replace e7 := hy.cellOf e7; replace e9 := hy.cellOf e9
  replace hw := Lib.hid (hw.out.trans hy)
  clear hy KB e8 e10 e11 e12
  go_wp2_with fail
  refine (KT.out _ hw.out).mono ?_
  rintro e w5 ⟨rfl, hy⟩
  replace e1 := hy.cellOf e1; replace e3 := hy.cellOf e3; replace e7 := hy.cellOf e7; replace e9 := hy.cellOf e9
  replace hw := Lib.hid (hw.out.trans hy)
  clear hy KT e2 e4 e5 e6
  have f0 : ∀ w', Ext w5 w' → w'.cell? ⟨w1.heap.size, 0, none⟩ = some (.slice (some ⟨ga, 0, none⟩) fs.length ca) := fun w' h => h.cellOf e1
  have f1 : ∀ w', Ext w5 w' → w'.cell? ⟨w1.heap.size + 1, 1, none⟩ = some (.int .i64 (k : Int)) := fun w' h => h.cellOf e3
  have f2 : ∀ w', Ext w5 w' → w'.cell? ⟨w1.heap.size + 1 + 1, 0, none⟩ = some (.slice (some ⟨gb, 0, none⟩) gs.length cb) := fun w' h => h.cellOf e7
  have f3 : ∀ w', Ext w5 w' → w'.cell? ⟨w1.heap.size + 1 + 1 + 1, 1, none⟩ = some (.int .i64 (j : Int)) := fun w' h => h.cellOf e9
  have f4 : ∀ w', Ext w5 w' → w'.cell? ⟨ga, k * 3, none⟩ = some (.int .i64 (fx fs k).t) := fun w' h => (HO.out w' (hw.out.trans h) k (by omega)).1
  have f5 : ∀ w', Ext w5 w' → w'.cell? ⟨gb, (j + 1) * 3, none⟩ = some (.int .i64 (fx gs (j + 1)).t) := fun w' h => (HP.out w' (hw.out.trans h) (j + 1) hj).1
  have i0 : (0 : Int) ≤ (k : Int) := by omega
  have i1 : (k : Int) < (fs.length : Int) := by omega
  have i2 : (0 : Int) ≤ (j : Int) + 1 := by omega
  have i3 : (j : Int) + 1 < (gs.length : Int) := by omega
  have T0 : IntKind.i64.wrap ((j : Int) + 1) = (j : Int) + 1 := IntWalk.i64_in _ (by omega)
  have T1 : ((j : Int) + 1).toNat = j + 1 := by omega
  have hr5 := Ext.refl w5
  clear e1 e3 e7 e9
  go_upto_region 14 with fail
  refine wp_region_held_drew (S := (fun w' => Ext w5 w')) (by kernel_rfl) (by (try dsimp only); first | go_keep | exact (Ext.refl _).drew | exact Res.new2.drew | exact Res.new4.drew | exact ResB.drew (by assumption) | exact ResC.drew (by assumption) | assumption | exact Ext.drew (by assumption) | exact Res.drew (by assumption)) (fun hHeld => ?_)
  (refine Ord.takeH 0 84 (v := ?_) rfl rfl (by kernel_rfl) (by kernel_rfl) (by kernel_rfl) (fun _ _ _ h => h) (by rfl) ?_ (by assumption) ?_; rotate_left; (intro w hSw; (try dsimp only at hSw); go_simp; (first | done | with_reducible rfl)); (try simp only [Act.put, List.setIfInBounds_toArray, List.set_cons_zero, List.set_cons_succ]))
  (refine Ord.takeH 1 85 (v := ?_) rfl rfl (by kernel_rfl) (by kernel_rfl) (by kernel_rfl) (fun _ _ _ h => h) (by rfl) ?_ (by assumption) ?_; rotate_left; (intro w hSw; (try dsimp only at hSw); go_simp; (first | done | with_reducible rfl)); (try simp only [Act.put, List.setIfInBounds_toArray, List.set_cons_zero, List.set_cons_succ]))
  (refine Ord.takeH 2 86 (v := ?_) rfl rfl (by kernel_rfl) (by kernel_rfl) (by kernel_rfl) (fun _ _ _ h => h) (by rfl) ?_ (by assumption) ?_; rotate_left; (intro w hSw; (try dsimp only at hSw); go_simp; (first | done | with_reducible rfl)); (try simp only [Act.put, List.setIfInBounds_toArray, List.set_cons_zero, List.set_cons_succ]))
  (refine Ord.takeH 3 87 (v := ?_) rfl rfl (by kernel_rfl) (by kernel_rfl) (by kernel_rfl) (fun _ _ _ h => h) (by rfl) ?_ (by assumption) ?_; rotate_left; (intro w hSw; (try dsimp only at hSw); go_simp; (first | done | with_reducible rfl)); (try simp only [Act.put, List.setIfInBounds_toArray, List.set_cons_zero, List.set_cons_succ]))
  (refine Ord.takeH 4 88 (v := ?_) rfl rfl (by kernel_rfl) (by kernel_rfl) (by kernel_rfl) (fun _ _ _ h => h) (by rfl) ?_ (by assumption) ?_; rotate_left; (intro w hSw; (try dsimp only at hSw); go_simp; (first | done | with_reducible rfl)); (try simp only [Act.put, List.setIfInBounds_toArray, List.set_cons_zero, List.set_cons_succ]))
  (refine Ord.takeH 5 89 (v := ?_) rfl rfl (by kernel_rfl) (by kernel_rfl) (by kernel_rfl) (fun _ _ _ h => h) (by rfl) ?_ (by assumption) ?_; rotate_left; (intro w hSw; (try dsimp only at hSw); go_simp; (first | done | with_reducible rfl)); (try simp only [Act.put, List.setIfInBounds_toArray, List.set_cons_zero, List.set_cons_succ]))
  (refine Ord.takeH 6 90 (v := ?_) rfl rfl (by kernel_rfl) (by kernel_rfl) (by kernel_rfl) (fun _ _ _ h => h) (by rfl) ?_ (by assumption) ?_; rotate_left; (intro w hSw; (try dsimp only at hSw); go_simp; (first | done | with_reducible rfl)); (try simp only [Act.put, List.setIfInBounds_toArray, List.set_cons_zero, List.set_cons_succ]))
  (refine Ord.takeH 7 91 (v := ?_) rfl rfl (by kernel_rfl) (by kernel_rfl) (by kernel_rfl) (fun _ _ _ h => h) (by rfl) ?_ (by assumption) ?_; rotate_left; (intro w hSw; (try dsimp only at hSw); go_simp; (first | done | with_reducible rfl)); (try simp only [Act.put, List.setIfInBounds_toArray, List.set_cons_zero, List.set_cons_succ]))
  (refine Ord.takeH 8 92 (v := ?_) rfl rfl (by kernel_rfl) (by kernel_rfl) (by kernel_rfl) (fun _ _ _ h => h) (by rfl) ?_ (by assumption) ?_; rotate_left; (intro w hSw; (try dsimp only at hSw); go_simp; (first | done | with_reducible rfl)); (try simp only [Act.put, List.setIfInBounds_toArray, List.set_cons_zero, List.set_cons_succ]))
  (refine Ord.takeH 9 93 (v := ?_) rfl rfl (by kernel_rfl) (by kernel_rfl) (by kernel_rfl) (fun _ _ _ h => h) (by rfl) ?_ (by assumption) ?_; rotate_left; (intro w hSw; (try dsimp only at hSw); go_simp; (first | done | with_reducible rfl)); (try simp only [Act.put, List.setIfInBounds_toArray, List.set_cons_zero, List.set_cons_succ]))
  (refine Ord.takeH 10 94 (v := ?_) rfl rfl (by kernel_rfl) (by kernel_rfl) (by kernel_rfl) (fun _ _ _ h => h) (by rfl) ?_ (by assumption) ?_; rotate_left; (intro w hSw; (try dsimp only at hSw); go_simp; (first | done | with_reducible rfl)); (try simp only [Act.put, List.setIfInBounds_toArray, List.set_cons_zero, List.set_cons_succ]))
  (refine Ord.takeH 11 95 (v := ?_) rfl rfl (by kernel_rfl) (by kernel_rfl) (by kernel_rfl) (fun _ _ _ h => h) (by rfl) ?_ (by assumption) ?_; rotate_left; (intro w hSw; (try dsimp only at hSw); go_simp; (first | done | with_reducible rfl)); (try simp only [Act.put, List.setIfInBounds_toArray, List.set_cons_zero, List.set_cons_succ]))
  (refine Ord.takeH 12 96 (v := ?_) rfl rfl (by kernel_rfl) (by kernel_rfl) (by kernel_rfl) (fun _ _ _ h => h) (by rfl) ?_ (by assumption) ?_; rotate_left; (intro w hSw; (try dsimp only at hSw); go_simp; (first | done | with_reducible rfl)); (try simp only [Act.put, List.setIfInBounds_toArray, List.set_cons_zero, List.set_cons_succ]))
  (refine Ord.takeH 13 97 (v := ?_) rfl rfl (by kernel_rfl) (by kernel_rfl) (by kernel_rfl) (fun _ _ _ h => h) (by rfl) ?_ (by assumption) ?_; rotate_left; (intro w hSw; (try dsimp only at hSw); go_simp; (first | done | with_reducible rfl)); (try simp only [Act.put, List.setIfInBounds_toArray, List.set_cons_zero, List.set_cons_succ]))
  (refine Ord.takeH 14 98 (v := ?_) rfl rfl (by kernel_rfl) (by kernel_rfl) (by kernel_rfl) (fun _ _ _ h => h) (by rfl) ?_ (by assumption) ?_; rotate_left; (intro w hSw; (try dsimp only at hSw); go_simp; (first | done | with_reducible rfl)); (try simp only [Act.put, List.setIfInBounds_toArray, List.set_cons_zero, List.set_cons_succ]))
  (refine Ord.takeH 15 15 (v := ?_) rfl rfl (by kernel_rfl) (by kernel_rfl) (by kernel_rfl) (fun _ _ _ h => h) (by rfl) ?_ (by assumption) ?_; rotate_left; (intro w hSw; (try dsimp only at hSw); go_simp; (first | done | with_reducible rfl)); (try simp only [Act.put, List.setIfInBounds_toArray, List.set_cons_zero, List.set_cons_succ]))
  (refine Ord.takeH 16 16 (v := ?_) rfl rfl (by kernel_rfl) (by kernel_rfl) (by kernel_rfl) (fun _ _ _ h => h) (by rfl) ?_ (by assumption) ?_; rotate_left; (intro w hSw; (try dsimp only at hSw); go_simp; (first | done | with_reducible rfl)); (try simp only [Act.put, List.setIfInBounds_toArray, List.set_cons_zero, List.set_cons_succ]))
  refine wpAnyH_done (by kernel_rfl) ?_ _
  have X := Lib.hid (hw.out.trans hHeld)
  clear hHeld f0 f1 f2 f3 f4 f5 hr5
  by_cases hq : (fx fs k).t ≤ (fx gs (j + 1)).t
  · have z0 : decide ((fx fs k).t ≤ (fx gs (j + 1)).t) = true := decide_eq_true hq
    go_wp2
    go_ret
    exact ⟨rfl, hx.out.trans X.out⟩
  · have z0 : decide ((fx fs k).t ≤ (fx gs (j + 1)).t) = false := decide_eq_false hq
    have z1 : decide (0 < N) = true := decide_eq_true (HLt.out (by omega))
    go_wp2
    go_ret
    exact ⟨rfl, hx.out.trans X.out⟩

theorem own : ownKnob Try.prog.godebug = none := by kernel_rfl
theorem laidOut : laidOutB Try.prog = true := by kernel_rfl

set_option maxRecDepth 100000 in
theorem lifted (os : Os) (started : os.Started) (H : Type) (enc : TypeId × Value → H) :
    ReturnsInHanded {} Try.checked os 5 .any (Rows.fnCompareCrossingsSpec.pre6 enc Try.prog Try.f5 Rows.fnCompareCrossingsRow.domain false) (Rows.fnCompareCrossingsSpec.post enc Try.prog Try.f5 false true false false) := by
  refine returnsInHanded_of_change (C := Try.checked) own started (by kernel_rfl) Try.func5
    (ChangeSpec.witness6 (enc := enc) (C := Try.checked) false ⟨#[], #[.slice none 0 0], []⟩ 8 (by kernel_rfl) (by kernel_rfl) (by kernel_rfl) (by kernel_rfl)) ?_
  intro W base args ds gs before hval0 hW hcnd _
  have hval : ∀ (j : Nat) t v, Try.f5.params[j]? = some t → args[j]? = some v → Value.okWide Try.prog W .any base t v := hval0
  have hW' := hW
  obtain ⟨p, q, hA0, hV, rfl, hfz, hnd⟩ := hW
  have hA : DataW.TrodAll enc Try.prog W 0 (fun _ => true) true Try.f5.params.toList args.toList ds p := hA0
  rw [Try.params5] at hA hval
  obtain ⟨v0, vs0, d0, ds0, p0, q0, hargs, rfl, rfl, h0, r0⟩ := trodAll_cons hA
  obtain ⟨rfl, rfl, rfl⟩ := trodAll_nil r0
  obtain rfl : args = #[v0] := by cases args; simp_all
  obtain ⟨rfl, rfl⟩ := trodVars_none hV
  have k0 := h0
  have lt0 : ∀ x ∈ p0, x.block < W.heap.size := by obtain ⟨m, hm⟩ := k0; exact DataW.trod_lt m _ _ _ hm
  obtain ⟨a0, len0, cap0, rfl⟩ := okWide_slice Try.underlying22 (hval 0 22 v0 rfl rfl)
  obtain ⟨z0, w0⟩ : ∃ zs, IsRow .u8 W a0 len0 cap0 zs := by
    obtain ⟨fuel, hf⟩ := h0
    rcases open_ints Try.underlying22 Try.underlying5 (by kernel_rfl) hf with ⟨hcs, _⟩ | ⟨x, l, c, zs, hcs, _, hl, hm, hz, _, hcell, hwz⟩
    · simp [Value.cells] at hcs
      obtain ⟨rfl, rfl, rfl⟩ := hcs
      exact ⟨[], .inl ⟨rfl, rfl, rfl, rfl⟩⟩
    · simp [Value.cells] at hcs
      obtain ⟨rfl, rfl, rfl⟩ := hcs
      exact ⟨zs, .inr ⟨_, rfl, hl, hm, by simpa using hz, hcell, hwz⟩⟩
  clear hA0 hval0
  refine (walk a0 len0 cap0 z0 W w0).mono fun e W' ⟨he, hx⟩ => ?_
  have bel := hx.below
  subst he
  exact ⟨_, rfl, _, _, _, [], _, [], hW', trodAll_mk1 (shut_bool Try.underlying4 _), (trodAll_cons_mk (Below.trod laidOut (by kernel_rfl) (of_decide_eq_true (by kernel_rfl)) k0 bel lt0) trodAll_mk0), rfl, bel.frame _, fun h => by cases h⟩

theorem proved : Rows.FnCompareCrossingsSaid :=
  OpenClaim.holds_of_wide 5 Try.f5 rfl rfl rfl rfl rfl rfl rfl ⟨rfl, rfl, rfl, rfl, rfl⟩ rfl rfl rfl rfl rfl (by kernel_rfl) Try.func5 (by kernel_rfl)
    (of_decide_eq_true (by kernel_rfl)) (by unfold Func.isWrapper; first | (rw [if_pos (by decide +kernel)]; kernel_rfl) | (rw [if_neg (by decide +kernel)]; exact ⟨rfl, rfl⟩))
    (fun os started H enc _ => lifted os started H enc)

end Go.Proofs.Ytccggjhmnbebbaa.fnCompareCrossings
