import Derived.Test.YtknelhceaoblhaaGreatCks2
import Derived.Deep.DeepCutAuto
namespace Go.Proofs.YtknelhceaoblhaaGreat.Cks
open Go.ChangeShapes Go.WideShapes Go.ChangeAt Go.RowKit Go.PlainAid
open Go.Proofs.YtknelhceaoblhaaGreat.Num Go.Proofs.YtknelhceaoblhaaGreat.Kit Go.Proofs.YtknelhceaoblhaaGreat.Pts Go.Proofs.YtknelhceaoblhaaGreat.Wch Go.Proofs.YtknelhceaoblhaaGreat.Iw Go.Proofs.YtknelhceaoblhaaGreat.Rwz Go.Proofs.YtknelhceaoblhaaGreat.Prs
open Go.Proofs.YtknelhceaoblhaaGreat.Trk (F3 Fx Fxs Tr fx trB FxV wrap_pred)
open Go.Proofs.YtknelhceaoblhaaGreat.Crs (T1 TV)
open Go.Proofs.YtknelhceaoblhaaGreat.Mnv (row_ext row_mono row_grown)
set_option linter.unusedVariables false
set_option linter.unusedSimpArgs false
theorem OwnZ.lit (w : World) : OwnZ (w.alloc (.cells #[] 2)) w.heap.size (.slice (some ⟨w.heap.size, 0, none⟩) 0 0) [] :=
  World.ownsRow_lit (base := w.heap.size) (e := 2) (size := 1) w #[] 0 (Nat.le_refl _) (by unfold maxLen; omega) rfl
def swB (f e p : Int) : Bool := decide (¬ 400 < swN f e p)
theorem sb_many {f e p : Int} (h : 400 < swN f e p) : swB f e p = false := by unfold swB; simp; omega
theorem sb_yes {f e p : Int} (h : ¬ 400 < swN f e p) : swB f e p = true := by unfold swB; simp; omega
theorem ret_vb {v : Value} {a b : Bool} (h : b = a) : Ending.returned (.tuple #[v, .bool a]) = .returned (.tuple #[v, .bool b]) := by rw [h]
set_option maxRecDepth 100000 in
set_option maxHeartbeats 8000000 in
theorem times_spec (l s d p : Int) (a0 b0 : Option Addr) (ca cb : Nat) (fs gs : List F3) (w : World) (hf : Fxs w a0 fs) (hg : Fxs w b0 gs) (hv : ccB l s d p fs gs = true) :
    Calls Tryz.prog 53 #[Wt l s d p, Tr (.slice a0 fs.length ca), Tr (.slice b0 gs.length cb)] w fun x w' => ∃ v, x = .returned (.tuple #[v, .bool (swB (ckA fs gs) (ckE fs gs) p)]) ∧ OwnZ w' w.heap.size v (pcZ p fs gs) ∧ Ext w w' := by
  obtain ⟨hw, ht, hu⟩ := cc_ok hv
  obtain ⟨_, _, _, p0, p1⟩ := wt_yes hw
  obtain ⟨b1, b2⟩ := ck_bd ht hu
  have hl1 := (tr_fix ht).1
  have hl2 := (tr_fix hu).1
  rcases hf.2 with h | ⟨ba, oa, rfl, ha⟩
  · rw [h] at hl1; simp at hl1
  rcases hg.2 with h | ⟨bb, ob, rfl, hb⟩
  · rw [h] at hl2; simp at hl2
  obtain ⟨x0, -, -⟩ := ha 0 (by omega)
  obtain ⟨y0, -, -⟩ := hb 0 (by omega)
  obtain ⟨x1, -, -⟩ := ha (fs.length - 1) (by omega)
  obtain ⟨y1, -, -⟩ := hb (gs.length - 1) (by omega)
  rw [Nat.zero_mul, Nat.add_zero] at x0 y0
  obtain ⟨W0, hW0⟩ : ∃ W0, W0 = ((w.alloc (.cells #[.int .i64 l, .int .i64 s, .int .i64 d, .int .i64 p] 27)).alloc (.cells #[.slice (some ⟨ba, oa, none⟩) fs.length ca] 30)).alloc (.cells #[.slice (some ⟨bb, ob, none⟩) gs.length cb] 30) := ⟨_, rfl⟩
  have hX : Ext w W0 := hW0 ▸ ((((Ext.refl w).alloc _).alloc _).alloc _)
  have hs0 : W0.heap.size = w.heap.size + 1 + 1 + 1 := by rw [hW0]; simp
  have e00 : ∀ w', (Ext W0) w' → w'.cell? ⟨w.heap.size, 0, none⟩ = some (.int .i64 l) := fun w' h => h.cellOf (by rw [hW0]; exact (((Ext.refl _).alloc _).alloc _).cellOf (boxed 0 rfl (by simp)))
  have e01 : ∀ w', (Ext W0) w' → w'.cell? ⟨w.heap.size, 1, none⟩ = some (.int .i64 s) := fun w' h => h.cellOf (by rw [hW0]; exact (((Ext.refl _).alloc _).alloc _).cellOf (boxed 1 rfl (by simp)))
  have e02 : ∀ w', (Ext W0) w' → w'.cell? ⟨w.heap.size, 2, none⟩ = some (.int .i64 d) := fun w' h => h.cellOf (by rw [hW0]; exact (((Ext.refl _).alloc _).alloc _).cellOf (boxed 2 rfl (by simp)))
  have e03 : ∀ w', (Ext W0) w' → w'.cell? ⟨w.heap.size, 3, none⟩ = some (.int .i64 p) := fun w' h => h.cellOf (by rw [hW0]; exact (((Ext.refl _).alloc _).alloc _).cellOf (boxed 3 rfl (by simp)))
  have e10 : ∀ w', (Ext W0) w' → w'.cell? ⟨w.heap.size + 1, 0, none⟩ = some (.slice (some ⟨ba, oa, none⟩) fs.length ca) := fun w' h => h.cellOf (by rw [hW0]; exact ((Ext.refl _).alloc _).cellOf (boxed 0 rfl (by simp)))
  have e20 : ∀ w', (Ext W0) w' → w'.cell? ⟨w.heap.size + 1 + 1, 0, none⟩ = some (.slice (some ⟨bb, ob, none⟩) gs.length cb) := fun w' h => h.cellOf (by rw [hW0]; exact boxed 0 rfl (by simp))
  have sW := Ext.size hX
  have f0 : ∀ w', Ext W0 w' → w'.cell? ⟨ba, oa, none⟩ = some (.int .i64 (fx fs 0).t) := fun w' h => h.cellOf (hX.cellOf x0)
  have g0 : ∀ w', Ext W0 w' → w'.cell? ⟨bb, ob, none⟩ = some (.int .i64 (fx gs 0).t) := fun w' h => h.cellOf (hX.cellOf y0)
  have f1 : ∀ w', Ext W0 w' → w'.cell? ⟨ba, oa + (fs.length - 1) * 3, none⟩ = some (.int .i64 (fx fs (fs.length - 1)).t) := fun w' h => h.cellOf (hX.cellOf x1)
  have g1 : ∀ w', Ext W0 w' → w'.cell? ⟨bb, ob + (gs.length - 1) * 3, none⟩ = some (.int .i64 (fx gs (gs.length - 1)).t) := fun w' h => h.cellOf (hX.cellOf y1)
  clear x0 y0 x1 y1
  obtain ⟨q0, q1⟩ := ckQ_bd b1.1 p0
  obtain ⟨z0, z1⟩ := ckF_bd b1.1 p0
  have HZ := Lib.hid (show pcZ p fs gs = swZ (ckA fs gs) (ckE fs gs) p from rfl)
  have HM := Lib.hid (fun h => And.intro (sw_many (f := ckA fs gs) (e := ckE fs gs) (p := p) h) (sb_many h))
  have HY := Lib.hid (fun h => And.intro (sw_yes (f := ckA fs gs) (e := ckE fs gs) (p := p) h) (sb_yes h))
  have HN := Lib.hid (show swN (ckA fs gs) (ckE fs gs) p = ckN (ckF (ckA fs gs) p) p (ckE fs gs) from rfl)
  have M1 : max (fx fs 0).t (fx gs 0).t = ckA fs gs := rfl
  have M2 : min (fx fs (fs.length - 1)).t (fx gs (gs.length - 1)).t = ckE fs gs := rfl
  have HF0 := show ckF (ckA fs gs) p = (ckA fs gs + p - 1).tdiv p * p from rfl
  have k0 : (0 : Int) < (fs.length : Int) := by omega
  have k0n : 0 < fs.length := by omega
  have m0n : 0 < gs.length := by omega
  have k1 : (0 : Int) ≤ (fs.length : Int) - 1 := by omega
  have k2 : (1 : Int) ≤ (fs.length : Int) := by omega
  have k3 : (fs.length : Int) - 1 < (fs.length : Int) := by omega
  have T0 := wrap_pred (n := fs.length) (by omega) hf.1
  have T1 : ((fs.length : Int) - 1).toNat = fs.length - 1 := by omega
  have m0 : (0 : Int) < (gs.length : Int) := by omega
  have m1 : (0 : Int) ≤ (gs.length : Int) - 1 := by omega
  have m2 : (1 : Int) ≤ (gs.length : Int) := by omega
  have m3 : (gs.length : Int) - 1 < (gs.length : Int) := by omega
  have T2 := wrap_pred (n := gs.length) (by omega) hg.1
  have T3 : ((gs.length : Int) - 1).toNat = gs.length - 1 := by omega
  have T4 : IntKind.i64.wrap (ckA fs gs + p) = ckA fs gs + p := IntWalk.i64_in _ (by omega)
  have T5 : IntKind.i64.wrap (ckA fs gs + p - 1) = ckA fs gs + p - 1 := IntWalk.i64_in _ (by omega)
  have T6 : IntKind.i64.wrap ((ckA fs gs + p - 1).tdiv p) = (ckA fs gs + p - 1).tdiv p := IntWalk.i64_in _ (by omega)
  have T7 : IntKind.i64.wrap ((ckA fs gs + p - 1).tdiv p * p) = (ckA fs gs + p - 1).tdiv p * p := IntWalk.i64_in _ (by rw [← HF0]; omega)
  have pp0 : ¬ p = 0 := by omega
  have pp1 : (p == 0) = false := beq_eq_false_iff_ne.2 pp0
  have HD := Lib.hid HF0
  generalize pcZ p fs gs = Z at *
  generalize swB (ckA fs gs) (ckE fs gs) p = B at *
  generalize hF : ckF (ckA fs gs) p = z at *
  generalize ckA fs gs = A at *
  generalize ckE fs gs = E at *
  generalize fx fs 0 = P1 at *
  generalize fx gs 0 = P2 at *
  generalize fx fs (fs.length - 1) = P3 at *
  generalize fx gs (gs.length - 1) = P4 at *
  obtain ⟨i0, hin, hz0, hz1, hz2⟩ := info_parts intInfo
  clear hf hg hv hw ht hu ha hb hF HF0
  have m8 : (if P1.t < P2.t then P2.t else P1.t) = A := by rw [← M1]; split <;> omega
  have m9 : (if P4.t < P3.t then P4.t else P3.t) = E := by rw [← M2]; split <;> omega
  have v8 : (if P1.t < P2.t then Value.int IntKind.i64 P2.t else Value.int IntKind.i64 P1.t) = Value.int IntKind.i64 A := by rw [← m8]; split <;> rfl
  have v9 : (if P4.t < P3.t then Value.int IntKind.i64 P4.t else Value.int IntKind.i64 P3.t) = Value.int IntKind.i64 E := by rw [← m9]; split <;> rfl
  have hr := Ext.refl W0
  go_enter Tryz.func53, Tryz.ntmps53
  go_wp2_with fail
  rw [← hW0]
  clear hW0
  refine wp_region_held_drew (S := (fun w' => Ext W0 w')) (by kernel_rfl) (by (try dsimp only); first | go_keep | exact (Ext.refl _).drew | exact Res.new2.drew | exact Res.new4.drew | exact ResB.drew (by assumption) | exact ResC.drew (by assumption) | assumption | exact Ext.drew (by assumption) | exact Res.drew (by assumption)) (fun hHeld => ?_)
  refine Ord.K 0 12 ?_
  refine Ord.K 1 13 ?_
  refine Ord.K 2 14 ?_
  refine Ord.K 3 15 ?_
  refine Ord.K 4 16 ?_
  refine Ord.K 5 17 ?_
  refine Ord.K 6 18 ?_
  refine Ord.K 7 19 ?_
  refine Ord.K 8 20 ?_
  refine Ord.K 9 21 ?_
  refine Ord.K 10 22 ?_
  refine Ord.K 11 8 ?_
  refine wpAnyH_done (by kernel_rfl) ?_ _
  have X1 : Ext W0 W0.drew := hHeld
  clear hHeld
  generalize W0.drew = V1 at *
  go_upto_region 2 with fail
  refine wp_region_held_drew (S := (fun w' => Ext W0 w')) (by kernel_rfl) (by (try dsimp only); first | go_keep | exact (Ext.refl _).drew | exact Res.new2.drew | exact Res.new4.drew | exact ResB.drew (by assumption) | exact ResC.drew (by assumption) | assumption | exact Ext.drew (by assumption) | exact Res.drew (by assumption)) (fun hHeld => ?_)
  refine Ord.K 0 23 ?_
  refine Ord.K 1 24 ?_
  refine Ord.K 2 25 ?_
  refine Ord.K 3 26 ?_
  refine Ord.K 4 27 ?_
  refine Ord.K 5 28 ?_
  refine Ord.K 6 29 ?_
  refine Ord.K 7 30 ?_
  refine Ord.K 8 31 ?_
  refine Ord.K 9 32 ?_
  refine Ord.K 10 33 ?_
  refine Ord.K 11 34 ?_
  refine Ord.K 12 35 ?_
  refine Ord.K 13 36 ?_
  refine Ord.K 14 37 ?_
  refine Ord.K 15 38 ?_
  refine Ord.K 16 39 ?_
  refine Ord.K 17 40 ?_
  refine Ord.K 18 41 ?_
  refine Ord.K 19 9 ?_
  refine wpAnyH_done (by kernel_rfl) ?_ _
  have X2 : Ext W0 V1.drew := hHeld
  clear hHeld
  generalize V1.drew = V2 at *
  clear X1
  have HL := Lib.hid (OwnZ.lit V2)
  obtain ⟨W4, hW4⟩ : ∃ W4, W4 = V2.alloc (.cells #[] 2) := ⟨_, rfl⟩
  have X4 : Ext V2 W4 := hW4 ▸ (Ext.refl V2).alloc _
  rw [← hW4] at HL
  have d3 : ∀ w', Ext V2 w' → w'.cell? ⟨w.heap.size, 3, none⟩ = some (.int .i64 p) := fun w' h => e03 w' (X2.trans h)
  go_upto_region 4 with fail
  rw [← hW4]
  clear hW4
  refine wp_region_held_drew (S := (fun w' => Ext V2 w')) (by kernel_rfl) (by (try dsimp only); first | go_keep | exact (Ext.refl _).drew | exact Res.new2.drew | exact Res.new4.drew | exact ResB.drew (by assumption) | exact ResC.drew (by assumption) | assumption | exact Ext.drew (by assumption) | exact Res.drew (by assumption)) (fun hHeld => ?_)
  refine Ord.K 0 43 ?_
  refine Ord.K 1 44 ?_
  refine Ord.K 2 45 ?_
  refine Ord.K 3 46 ?_
  refine Ord.K 4 47 ?_
  refine Ord.K 5 48 ?_
  refine Ord.K 6 49 ?_
  refine Ord.K 7 50 ?_
  refine Ord.K 8 51 ?_
  refine Ord.K 9 52 ?_
  refine Ord.K 10 53 ?_
  refine Ord.K 11 11 ?_
  refine wpAnyH_done (by kernel_rfl) ?_ _
  have X5 : Ext V2 W4.drew := hHeld
  have O5 := HL.out.ext ((Ext.refl W4).drew)
  generalize W4.drew = V5 at *
  clear hHeld X4 HL f0 g0 f1 g1
  go_wp2
  go_loopw [10, 11] (fun o t wr => RelSt V2 V2.heap.size z p E o t wr) (fun _ t _ => (E - intOf t + 1).toNat)
  case atStart => exact ⟨0, by rw [HD.out]; simp, by omega, by omega, O5, X5⟩
  case round =>
    obtain ⟨k, rfl, hk, hn, hO, hx⟩ := hrel
    have HO := Lib.hid hO
    have HX := Lib.hid hx
    obtain ⟨b0, b1⟩ := st_bd ⟨p0, p1⟩ hn ⟨by omega, by omega⟩ b2
    have HE := Lib.hid (ck_lt (z := z) (e := E) (show 0 < p by omega) k)
    have HD2 := Lib.hid (fun h => ck_end (z := z) (e := E) (show 0 < p by omega) hn h)
    have HS := Lib.hid (ck_snoc z p k)
    have HNX := Lib.hid (ck_next z p k)
    have HLen := Lib.hid (ck_len z p k)
    have q3 := d3 wr HX.out
    clear hO hx
    obtain ⟨t, ht⟩ : ∃ t, t = z + (k : Int) * p := ⟨_, rfl⟩
    rw [← ht] at b0 b1 HE HD2 HS HNX
    rw [← ht]
    have HT := Lib.hid ht
    clear ht
    have T8 : IntKind.i64.wrap (t + p) = t + p := IntWalk.i64_in _ (by omega)
    by_cases h1 : t ≤ E
    · have hlt := HE.out.2 h1
      generalize ckZ z p k = zs at *
      by_cases h4 : k = 400
      · have H := Lib.hid (HM.out (by rw [HN.out]; omega))
        have l4 : (zs.length : Int) = 400 := by have := HLen.out; omega
        have l5 : ((zs.length : Int) == 400) = true := beq_iff_eq.2 l4
        obtain ⟨a, c, rfl, hZ⟩ := HO.out.zxs (by unfold maxLen; have := HLen.out; omega)
        have HZ2 := Lib.hid (HZ.out.trans H.out.1.2)
        clear hZ
        go_wp2
        go_ret2
        exact ⟨_, ret_vb H.out.2, by rw [HZ2.out]; exact OwnZ.nil _ _, hX.trans (X2.trans HX.out)⟩
      · have l4 : ¬ (zs.length : Int) = 400 := by have := HLen.out; omega
        have l5 : ((zs.length : Int) == 400) = false := beq_eq_false_iff_ne.2 l4
        have OA := row_ext HO.out ((Ext.refl wr).alloc (.cells #[.int .i64 t] 2))
        have XA := Lib.hid (HX.out.alloc (.cells #[.int .i64 t] 2))
        have CC := Lib.hid (lit1 (w := wr) (n := wr.heap.size) (u := .int .i64 t) (t := 2) rfl)
        have Q1 := Lib.hid (oneI t)
        have Q3 := Lib.hid (show zs.length + 1 ≤ maxLen by unfold maxLen; have := HLen.out; omega)
        have Q4 := Lib.hid (show (zs.length + 1) * 8 ≤ 140737488355328 by have := HLen.out; omega)
        have zA := Lib.hid (Ext.size XA.out)
        have E5 := Lib.hid (cz_snoc zs t)
        have L5 := Lib.hid (show (zs ++ [t]).length = zs.length + 1 by simp)
        have HK4 := Lib.hid (show k + 1 ≤ 400 by omega)
        have HK5 := Lib.hid (show k + 1 ≤ ckN z p E from hlt)
        obtain ⟨a, c, rfl, hZ⟩ := HO.out.zxs (by unfold maxLen; have := HLen.out; omega)
        clear hZ h4 hlt hk hn
        go_wp2_with (at_builtin; refine wpList_append_own _ rfl _ _ 36 rfl V2.heap.size 2 i0 (.int .i64 0) 1 8 Tryz.underlying36 hin hz0 hz1 hz2 rfl (by decide) _ zs.length _ rfl OA ⟨wr.heap.size, 0, none⟩ 1 1 [.int .i64 t] rfl rfl CC.out Q1.out Q3.out Q4.out zA.out ?_; intro v1 w6 hown hgrow hnil; have O6 := Lib.hid (show OwnZ w6 V2.heap.size v1 (zs ++ [t]) by unfold OwnZ; rw [L5.out, E5.out]; exact hown); have X6 := Lib.hid (row_grown (w0 := V2) OA hgrow (Nat.le_refl _) XA.out); have q6 := d3 w6 X6.out; clear hown hgrow hnil OA q3)
        go_roundw
        case rel => exact ⟨k + 1, by rw [← HNX.out], HK4.out, HK5.out, by rw [HS.out]; exact O6.out, X6.out⟩
        case measure => simp [intOf]; omega
    · have hd := HD2.out h1
      have H := Lib.hid (HY.out (by rw [HN.out]; omega))
      have HN2 := Lib.hid (HN.out.trans hd)
      have HZ2 := Lib.hid (HZ.out.trans H.out.1.2)
      have sV := Lib.hid (Ext.size (hX.trans X2))
      go_wp2
      go_ret2
      exact ⟨_, ret_vb H.out.2, by rw [HZ2.out, HN2.out]; exact OwnZ.mono HO.out sV.out, hX.trans (X2.trans HX.out)⟩
theorem ok_cases (f e p : Int) : (swB f e p = true ∧ swC f e p = 0) ∨ (swB f e p = false ∧ swC f e p = 3 ∧ swZ f e p = []) := by
  by_cases h : 400 < swN f e p
  · exact .inr ⟨sb_many h, sw_many h⟩
  · exact .inl ⟨sb_yes h, (sw_yes h).1⟩
set_option maxHeartbeats 4000000 in
theorem checkTimes_spec (l s d p : Int) (a0 b0 : Option Addr) (ca cb : Nat) (fs gs : List F3) (w : World) (hf : Fxs w a0 fs) (hg : Fxs w b0 gs) :
    Calls Tryz.prog 39 #[Wt l s d p, Tr (.slice a0 fs.length ca), Tr (.slice b0 gs.length cb)] w fun x w' => ∃ v, x = .returned (.tuple #[v, .int .i64 (ccC l s d p fs gs)]) ∧ OwnZ w' w.heap.size v (ccZ l s d p fs gs) ∧ Ext w w' := by
  obtain ⟨W0, hW0⟩ : ∃ W0, W0 = ((w.alloc (.cells #[.int .i64 l, .int .i64 s, .int .i64 d, .int .i64 p] 27)).alloc (.cells #[.slice a0 fs.length ca] 30)).alloc (.cells #[.slice b0 gs.length cb] 30) := ⟨_, rfl⟩
  have hX : Ext w W0 := hW0 ▸ ((((Ext.refl w).alloc _).alloc _).alloc _)
  have hs0 : W0.heap.size = w.heap.size + 1 + 1 + 1 := by rw [hW0]; simp
  have e00 : ∀ w', (Ext W0) w' → w'.cell? ⟨w.heap.size, 0, none⟩ = some (.int .i64 l) := fun w' h => h.cellOf (by rw [hW0]; exact (((Ext.refl _).alloc _).alloc _).cellOf (boxed 0 rfl (by simp)))
  have e01 : ∀ w', (Ext W0) w' → w'.cell? ⟨w.heap.size, 1, none⟩ = some (.int .i64 s) := fun w' h => h.cellOf (by rw [hW0]; exact (((Ext.refl _).alloc _).alloc _).cellOf (boxed 1 rfl (by simp)))
  have e02 : ∀ w', (Ext W0) w' → w'.cell? ⟨w.heap.size, 2, none⟩ = some (.int .i64 d) := fun w' h => h.cellOf (by rw [hW0]; exact (((Ext.refl _).alloc _).alloc _).cellOf (boxed 2 rfl (by simp)))
  have e03 : ∀ w', (Ext W0) w' → w'.cell? ⟨w.heap.size, 3, none⟩ = some (.int .i64 p) := fun w' h => h.cellOf (by rw [hW0]; exact (((Ext.refl _).alloc _).alloc _).cellOf (boxed 3 rfl (by simp)))
  have e10 : ∀ w', (Ext W0) w' → w'.cell? ⟨w.heap.size + 1, 0, none⟩ = some (.slice a0 fs.length ca) := fun w' h => h.cellOf (by rw [hW0]; exact ((Ext.refl _).alloc _).cellOf (boxed 0 rfl (by simp)))
  have e20 : ∀ w', (Ext W0) w' → w'.cell? ⟨w.heap.size + 1 + 1, 0, none⟩ = some (.slice b0 gs.length cb) := fun w' h => h.cellOf (by rw [hW0]; exact boxed 0 rfl (by simp))
  have sW := Ext.size hX
  have HF := Lib.hid (hf.ext hX)
  have HG := Lib.hid (hg.ext hX)
  have KW := Lib.hid (fun w => isWatch_spec l s d p w)
  have KA := Lib.hid (fun w (h : Fxs w a0 fs) => Trk.isTrack_spec a0 ca fs w h)
  have KB := Lib.hid (fun w (h : Fxs w b0 gs) => Trk.isTrack_spec b0 cb gs w h)
  have KT := Lib.hid (fun w (h : Fxs w a0 fs) (g : Fxs w b0 gs) => times_spec l s d p a0 b0 ca cb fs gs w h g)
  have HV := Lib.hid (show ccB l s d p fs gs = (wtB l s d p && (trB fs && trB gs)) from rfl)
  clear hf hg
  go_enter Tryz.func39, Tryz.ntmps39
  go_wp2_with fail
  rw [← hW0]
  clear hW0
  refine (KW.out _).mono ?_
  rintro e w1 ⟨rfl, hy⟩
  have X1 : Ext W0 w1 := hy
  clear hy
  cases h1 : wtB l s d p
  · have H := Lib.hid (cc_no (l := l) (s := s) (d := d) (p := p) (fs := fs) (gs := gs) (by rw [HV.out, h1]; rfl))
    go_wp2
    go_ret2
    exact ⟨_, ret_vc H.out.1, by rw [H.out.2]; exact OwnZ.nil _ _, hX.trans X1⟩
  have c1 := e10 w1 X1
  go_wp2_with fail
  refine (KA.out _ (HF.out.ext X1)).mono ?_
  rintro e w2 ⟨rfl, hy⟩
  have X2 : Ext W0 w2 := X1.trans hy
  clear hy c1
  cases h2 : trB fs
  · have H := Lib.hid (cc_no (l := l) (s := s) (d := d) (p := p) (fs := fs) (gs := gs) (by rw [HV.out, h1, h2]; rfl))
    go_wp2
    go_ret2
    exact ⟨_, ret_vc H.out.1, by rw [H.out.2]; exact OwnZ.nil _ _, hX.trans X2⟩
  have c2 := e20 w2 X2
  go_wp2_with fail
  refine (KB.out _ (HG.out.ext X2)).mono ?_
  rintro e w3 ⟨rfl, hy⟩
  have X3 : Ext W0 w3 := X2.trans hy
  clear hy c2
  cases h3 : trB gs
  · have H := Lib.hid (cc_no (l := l) (s := s) (d := d) (p := p) (fs := fs) (gs := gs) (by rw [HV.out, h1, h2, h3]; rfl))
    go_wp2
    go_ret2
    exact ⟨_, ret_vc H.out.1, by rw [H.out.2]; exact OwnZ.nil _ _, hX.trans X3⟩
  have hv : ccB l s d p fs gs = true := by rw [HV.out, h1, h2, h3]; rfl
  have H := Lib.hid (cc_yes hv)
  have HC := Lib.hid (show pcC p fs gs = swC (ckA fs gs) (ckE fs gs) p from rfl)
  have HZ := Lib.hid (show pcZ p fs gs = swZ (ckA fs gs) (ckE fs gs) p from rfl)
  have c0 := e00 w3 X3
  have c1 := e01 w3 X3
  have c2 := e02 w3 X3
  have c3 := e03 w3 X3
  have c4 := e10 w3 X3
  have c5 := e20 w3 X3
  have X4 := Lib.hid (hX.trans X3)
  go_wp2_with fail
  refine (KT.out _ (HF.out.ext X3) (HG.out.ext X3) hv).mono ?_
  rintro e w4 ⟨v, rfl, hO, hy⟩
  rcases ok_cases (ckA fs gs) (ckE fs gs) p with ⟨q1, q2⟩ | ⟨q1, q2, q3⟩
  · rw [q1]
    have H2 := Lib.hid (H.out.1.trans (HC.out.trans q2))
    go_wp2
    go_ret2
    exact ⟨_, ret_vc H2.out, by rw [H.out.2]; exact OwnZ.mono hO (Ext.size X4.out), X4.out.trans hy⟩
  · rw [q1]
    have H2 := Lib.hid (H.out.1.trans (HC.out.trans q2))
    have H3 := Lib.hid (H.out.2.trans (HZ.out.trans q3))
    go_wp2
    go_ret2
    exact ⟨_, ret_vc H2.out, by rw [H3.out]; exact OwnZ.nil _ _, X4.out.trans hy⟩
end Go.Proofs.YtknelhceaoblhaaGreat.Cks
