/- Contracts of the search for the leg at a time, third part: legAt (impl), l03Leg (spec), LegAt of both. -/
import Derived.Test.YtlheppblioglpaaGreatLeg3
namespace Go.Proofs.YtlheppblioglpaaGreat.Trk
open Go.ChangeShapes Go.WideShapes Go.ChangeAt Go.RowKit
open Go.Proofs.YtlheppblioglpaaGreat.Num Go.Proofs.YtlheppblioglpaaGreat.Kit Go.Proofs.YtlheppblioglpaaGreat.Pts
set_option linter.unusedVariables false
set_option linter.unusedSimpArgs false

theorem lastB_yes {fs : List F3} {t : Int} (h : lastB fs t = true) : (fx fs 0).t ≤ t ∧ t ≤ (fx fs (fs.length - 1)).t := by simpa [lastB, inB] using h

theorem times_le {fs : List F3} (h : trB fs = true) (i j : Nat) (hij : i ≤ j) (hj : j < fs.length) : (fx fs i).t ≤ (fx fs j).t := by
  by_cases e : i = j
  · subst e; omega
  · have := times_lt h i j (by omega) hj; omega

theorem legAt_any (a : Option Addr) (cap : Nat) (fs : List F3) (t : Int) (w : World) (hf : Fxs w a fs) (hcap : fs.length ≤ cap) (hv : trB fs = true) (hl : lastB fs t = true) :
    Calls Tryz.prog 56 #[Tr (.slice a fs.length cap), .int .i64 t] w fun e w' => e = .returned (.int .i64 (legOf fs t)) ∧ Ext w w' := by
  obtain ⟨⟨h2, h40⟩, _⟩ := trB_yes hv
  have hm := hf.1
  rcases hf.2 with h | ⟨b, off, rfl, hb⟩
  · rw [h] at h2; simp at h2
  have HV := Lib.hid hv
  have HL := Lib.hid hl
  have HB := Lib.hid hb
  clear hf hb hv hl
  have i0 : (0 : Int) ≤ ((fs.length - 1 : Nat) : Int) := by omega
  have i1 : ((fs.length - 1 : Nat) : Int) ≤ (cap : Int) := by omega
  have T1 : (((fs.length - 1 : Nat) : Int)).toNat = fs.length - 1 := by omega
  go_enter Tryz.func56, Tryz.ntmps56
  go_wp2_with fail
  have e0 : ∀ w', Ext (w.alloc (.cells #[.slice (some ⟨b, off, none⟩) fs.length cap] 28)) w' → w'.cell? ⟨w.heap.size, 0, none⟩ = some (.slice (some ⟨b, off, none⟩) fs.length cap) := fun w' h => h.cellOf (boxed 0 rfl rfl)
  refine wp_region_held_drew (S := (fun w' => Ext (w.alloc (.cells #[.slice (some ⟨b, off, none⟩) fs.length cap] 28)) w')) (by kernel_rfl) (by (try dsimp only); first | go_keep | exact (Ext.refl _).drew | exact Res.new2.drew | exact Res.new4.drew | exact ResB.drew (by assumption) | exact ResC.drew (by assumption) | assumption | exact Ext.drew (by assumption) | exact Res.drew (by assumption)) (fun hHeld => ?_)
  refine Ord.K 0 5 ?_
  refine Ord.K 1 6 ?_
  refine Ord.K 2 7 ?_
  refine Ord.K 5 10 ?_
  (refine wpAnyH_ready (rs := [3]) (by kernel_rfl) (by simp) ?_; refine AllReadyH.cons rfl (fun K hK => ?_) AllReadyH.nil; go_simp; (first | (go_at_call 89; refine (legCount_any _ _ _ _ (by omega) (by omega)).mono ?_; rintro e w1 ⟨rfl, hy⟩) | (go_at_call 88; refine (lastAtMost_any b off cap (fs.length - 1) fs t _ (by omega) (fun i hi => ((HB.out i (by omega)).ext ((Ext.refl _).alloc _)).ext (by assumption)) (fun i j hij hj => times_le HV.out i j hij (by omega))).mono ?_; rintro e w2 ⟨h, rfl, hh, ha, hb, hy⟩)); go_wp2_with fail; (refine hK.out _ _ (by first | assumption | exact Ext.trans (by assumption) hy | exact Res.ext (by assumption) hy | exact ResB.ext (by assumption) hy | exact ResC.ext (by assumption) hy | (go_split_ands; (repeat' apply And.intro) <;> exact Ext.cellOf hy (by assumption))) (fun hHeld => ?_)); clear hK K; (try simp only [Act.put, Ord.a, Ord.b, Ord.c]))
  refine Ord.K 4 9 ?_
  (refine wpAnyH_ready (rs := [6]) (by kernel_rfl) (by simp) ?_; refine AllReadyH.cons rfl (fun K hK => ?_) AllReadyH.nil; go_simp; (first | (go_at_call 89; refine (legCount_any _ _ _ _ (by omega) (by omega)).mono ?_; rintro e w1 ⟨rfl, hy⟩) | (go_at_call 88; refine (lastAtMost_any b off cap (fs.length - 1) fs t _ (by omega) (fun i hi => ((HB.out i (by omega)).ext ((Ext.refl _).alloc _)).ext (by assumption)) (fun i j hij hj => times_le HV.out i j hij (by omega))).mono ?_; rintro e w2 ⟨h, rfl, hh, ha, hb, hy⟩)); go_wp2_with fail; (refine hK.out _ _ (by first | assumption | exact Ext.trans (by assumption) hy | exact Res.ext (by assumption) hy | exact ResB.ext (by assumption) hy | exact ResC.ext (by assumption) hy | (go_split_ands; (repeat' apply And.intro) <;> exact Ext.cellOf hy (by assumption))) (fun hHeld => ?_)); clear hK K; (try simp only [Act.put, Ord.a, Ord.b, Ord.c]))
  refine Ord.K 7 4 ?_
  refine wpAnyH_done (by kernel_rfl) ?_ _
  have hh1 : 1 ≤ h := by
    rcases Nat.eq_zero_or_pos h with g | g
    · have := hb 0 (by omega) (by omega); have := (lastB_yes HL.out).1; omega
    · exact g
  have E := Lib.hid (show ((legOf fs t : Nat) : Int) = (h : Int) - 1 by unfold legOf; rw [legUp_pred fs t h hh1 (fs.length - 1) hh ha hb]; omega)
  clear ha hb
  go_wp2
  go_ret
  exact ⟨ret_int E.out, ((Ext.refl _).alloc _).trans (by assumption)⟩

/-- What l03Leg keeps. -/
def RelL (w : World) (fs : List F3) (t : Int) (k i : Value) (wr : World) : Prop := ∃ n : Nat, i = .int .i64 n ∧ k = .int .i64 (legUp fs t n) ∧ n ≤ fs.length - 1 ∧ Ext w wr

theorem leg_spec (a : Option Addr) (cap : Nat) (fs : List F3) (t : Int) (w : World) (hf : Fxs w a fs) (h1 : 1 ≤ fs.length) (h40 : fs.length ≤ 1000000) :
    Calls Tryz.prog 100 #[Tr (.slice a fs.length cap), .int .i64 t] w fun e w' => e = .returned (.int .i64 (legOf fs t)) ∧ Ext w w' := by
  rcases hf.2 with h | ⟨b, off, rfl, hb⟩
  · rw [h] at h1; simp at h1
  have HB := Lib.hid hb
  clear hf hb
  go_enter Tryz.func100, Tryz.ntmps100
  go_wp2
  go_loopw [5, 6] (fun k i wr => RelL (w.alloc (.cells #[.slice (some ⟨b, off, none⟩) fs.length cap] 28)) fs t k i wr) (fun k i _ => fs.length - (intOf i).toNat)
  case atStart => exact ⟨0, rfl, rfl, Nat.zero_le _, Ext.refl _⟩
  case round =>
    obtain ⟨n, rfl, rfl, hn, hx⟩ := hrel
    have HX := Lib.hid hx
    have bx : wr.cell? ⟨w.heap.size, 0, none⟩ = some (.slice (some ⟨b, off, none⟩) fs.length cap) := hx.cellOf (boxed 0 rfl rfl)
    clear hx
    have T0 : IntKind.i64.wrap ((n : Int) + 1) = (n : Int) + 1 := IntWalk.i64_in _ (by omega)
    by_cases hn1 : n + 1 < fs.length
    · obtain ⟨c0, _, _⟩ := ((HB.out n (by omega)).ext ((Ext.refl _).alloc _)).ext HX.out
      have i0 : (0 : Int) ≤ (n : Int) := by omega
      have i1 : (n : Int) < (fs.length : Int) := by omega
      have z0 : decide ((n : Int) + 1 < (fs.length : Int)) = true := decide_eq_true (by omega)
      by_cases ht : (fx fs n).t ≤ t
      · have H := Lib.hid (show legUp fs t (n + 1) = n by rw [legUp, if_pos ht])
        go_wp2
        go_roundw
        case rel => exact ⟨n + 1, by go_num, by rw [H.out], by omega, HX.out⟩
        case measure => simp [intOf]; omega
      · have H := Lib.hid (show legUp fs t (n + 1) = legUp fs t n by rw [legUp, if_neg ht])
        have z1 : decide ((fx fs n).t ≤ t) = false := decide_eq_false ht
        go_wp2
        go_roundw
        case rel => exact ⟨n + 1, by go_num, by rw [H.out], by omega, HX.out⟩
        case measure => simp [intOf]; omega
    · have z0 : decide ((n : Int) + 1 < (fs.length : Int)) = false := decide_eq_false (by omega)
      obtain rfl : n = fs.length - 1 := by omega
      go_wp2
      go_ret
      exact ⟨rfl, ((Ext.refl _).alloc _).trans HX.out⟩

/-- The leg that LegAt answers. -/
def lgI (fs : List F3) (t : Int) : Int := if ctI fs t = 0 then (legOf fs t : Int) else 0

theorem legAt_spec (a : Option Addr) (cap : Nat) (fs : List F3) (t : Int) (w : World) (hf : Fxs w a fs) :
    Calls Tryz.prog 98 #[Tr (.slice a fs.length cap), .int .i64 t] w fun e w' => e = .returned (.tuple #[.int .i64 (lgI fs t), .int .i64 (ctI fs t)]) ∧ Ext w w' := by
  have HF := Lib.hid hf
  clear hf
  cases hv : trB fs
  · have H := Lib.hid (ctI_bad (t := t) hv)
    have G := Lib.hid (show lgI fs t = 0 by unfold lgI; rw [H.out]; rfl)
    go_enter Tryz.func98, Tryz.ntmps98
    go_wp2_with (go_at_call 64; refine (isTrack_spec _ _ _ _ (HF.out.ext (by repeat (first | exact Ext.refl _ | assumption | apply Ext.alloc | apply Ext.drew | (refine Ext.trans ?_ (by assumption)) | (refine Ext.setNew ?_ (by simp <;> omega) _))))).mono ?_; rw [hv]; rintro e w1 ⟨rfl, h1⟩)
    rw [G.out, H.out]
    go_ret2
    exact ⟨rfl, (by repeat (first | exact Ext.refl _ | assumption | apply Ext.alloc | apply Ext.drew | (refine Ext.trans ?_ (by assumption)) | (refine Ext.setNew ?_ (by simp <;> omega) _)))⟩
  obtain ⟨⟨h2, h40⟩, _⟩ := trB_yes hv
  cases hl : lastB fs t
  · have H := Lib.hid (ctI_out hv hl)
    have G := Lib.hid (show lgI fs t = 0 by unfold lgI; rw [H.out]; rfl)
    go_enter Tryz.func98, Tryz.ntmps98
    go_wp2_with fail
    refine (isTrack_spec _ _ _ _ (HF.out.ext (by repeat (first | exact Ext.refl _ | assumption | apply Ext.alloc | apply Ext.drew | (refine Ext.trans ?_ (by assumption)) | (refine Ext.setNew ?_ (by simp <;> omega) _))))).mono ?_
    rw [hv]
    rintro e w1 ⟨rfl, h1⟩
    have X1 := Lib.hid (((Ext.refl w).alloc _).trans h1)
    have b1 : w1.cell? ⟨w.heap.size, 0, none⟩ = some (.slice a fs.length cap) := h1.cellOf (boxed 0 rfl rfl)
    clear h1
    go_wp2_with fail
    refine (lasts_spec _ _ _ _ _ (HF.out.ext (X1.out.trans (by repeat (first | exact Ext.refl _ | assumption | apply Ext.alloc | apply Ext.drew | (refine Ext.trans ?_ (by assumption)) | (refine Ext.setNew ?_ (by simp <;> omega) _))))) (by omega)).mono ?_
    rw [hl]
    rintro e w2 ⟨rfl, h2⟩
    have X2 := Lib.hid (X1.out.trans h2)
    clear h2
    go_wp2
    rw [G.out, H.out]
    go_ret2
    exact ⟨rfl, X2.out⟩
  · have H := Lib.hid (ctI_in hv hl)
    have G := Lib.hid (show lgI fs t = (legOf fs t : Int) by unfold lgI; rw [H.out]; rfl)
    go_enter Tryz.func98, Tryz.ntmps98
    go_wp2_with fail
    refine (isTrack_spec _ _ _ _ (HF.out.ext (by repeat (first | exact Ext.refl _ | assumption | apply Ext.alloc | apply Ext.drew | (refine Ext.trans ?_ (by assumption)) | (refine Ext.setNew ?_ (by simp <;> omega) _))))).mono ?_
    rw [hv]
    rintro e w1 ⟨rfl, h1⟩
    have X1 := Lib.hid (((Ext.refl w).alloc _).trans h1)
    have b1 : w1.cell? ⟨w.heap.size, 0, none⟩ = some (.slice a fs.length cap) := h1.cellOf (boxed 0 rfl rfl)
    clear h1
    go_wp2_with fail
    refine (lasts_spec _ _ _ _ _ (HF.out.ext (X1.out.trans (by repeat (first | exact Ext.refl _ | assumption | apply Ext.alloc | apply Ext.drew | (refine Ext.trans ?_ (by assumption)) | (refine Ext.setNew ?_ (by simp <;> omega) _))))) (by omega)).mono ?_
    rw [hl]
    rintro e w2 ⟨rfl, h2⟩
    have X2 := Lib.hid (X1.out.trans h2)
    have b2 := h2.cellOf b1
    clear h2 b1 X1
    go_wp2_with fail
    refine (leg_spec _ _ _ _ _ (HF.out.ext (X2.out.trans (by repeat (first | exact Ext.refl _ | assumption | apply Ext.alloc | apply Ext.drew | (refine Ext.trans ?_ (by assumption)) | (refine Ext.setNew ?_ (by simp <;> omega) _))))) (by omega) (by omega)).mono ?_
    rintro e w3 ⟨rfl, h3⟩
    have X3 := Lib.hid (X2.out.trans h3)
    clear h3
    go_wp2
    rw [G.out, H.out]
    go_ret2
    exact ⟨rfl, X3.out⟩

end Go.Proofs.YtlheppblioglpaaGreat.Trk
