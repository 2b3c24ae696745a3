/- Contracts of the search for the leg at a time: sort.Search at our closure, lastAtMost, legAt (impl), l03Leg (spec), LegAt of both. -/
import Derived.Test.YtlheppblioglpaaGreatLeg
import Derived.Deep.LoopGhost
namespace Go.Proofs.YtlheppblioglpaaGreat.Trk
open Go.ChangeShapes Go.WideShapes Go.ChangeAt Go.RowKit
open Go.Proofs.YtlheppblioglpaaGreat.Num Go.Proofs.YtlheppblioglpaaGreat.Kit Go.Proofs.YtlheppblioglpaaGreat.Pts
set_option linter.unusedVariables false
set_option linter.unusedSimpArgs false

/-- The code of a track that has to last at a time. -/
def ctI (fs : List F3) (t : Int) : Int := if trB fs = true then (if lastB fs t = true then 0 else 2) else 1
theorem ctI_bad {fs : List F3} {t : Int} (h : trB fs = false) : ctI fs t = 1 := by unfold ctI; rw [h]; simp
theorem ctI_out {fs : List F3} {t : Int} (h : trB fs = true) (g : lastB fs t = false) : ctI fs t = 2 := by unfold ctI; rw [h, g]; simp
theorem ctI_in {fs : List F3} {t : Int} (h : trB fs = true) (g : lastB fs t = true) : ctI fs t = 0 := by unfold ctI; rw [h, g]; simp

theorem checkTime_any (a : Option Addr) (cap : Nat) (fs : List F3) (t : Int) (w : World) (hf : Fxs w a fs) : Calls Tryz.prog 30 #[Tr (.slice a fs.length cap), .int .i64 t] w fun e w' => e = .returned (.int .i64 (ctI fs t)) ∧ Ext w w' := by
  have HF := Lib.hid hf
  clear hf
  cases hv : trB fs
  · have H := Lib.hid (ctI_bad (t := t) hv)
    go_enter Tryz.func30, Tryz.ntmps30
    go_wp2_with (go_at_call 49; refine (trackValid_any _ _ _ _ (HF.out.ext (by repeat (first | exact Ext.refl _ | assumption | apply Ext.alloc | apply Ext.drew | (refine Ext.trans ?_ (by assumption)) | (refine Ext.setNew ?_ (by simp <;> omega) _))))).mono ?_; rw [hv]; rintro e w1 ⟨rfl, h1⟩)
    go_ret
    exact ⟨ret_int H.out, (by repeat (first | exact Ext.refl _ | assumption | apply Ext.alloc | apply Ext.drew | (refine Ext.trans ?_ (by assumption)) | (refine Ext.setNew ?_ (by simp <;> omega) _)))⟩
  · have h0 : 0 < fs.length := by have := (trB_yes hv).1; omega
    cases hl : lastB fs t
    · have H := Lib.hid (ctI_out hv hl)
      go_enter Tryz.func30, Tryz.ntmps30
      go_wp2_with fail
      refine (trackValid_any _ _ _ _ (HF.out.ext (by repeat (first | exact Ext.refl _ | assumption | apply Ext.alloc | apply Ext.drew | (refine Ext.trans ?_ (by assumption)) | (refine Ext.setNew ?_ (by simp <;> omega) _))))).mono ?_
      rw [hv]
      rintro e w1 ⟨rfl, h1⟩
      have X1 := Lib.hid (((Ext.refl w).alloc _).trans h1)
      have b1 : w1.cell? ⟨w.heap.size, 0, none⟩ = some (.slice a fs.length cap) := h1.cellOf (boxed 0 rfl rfl)
      clear h1
      go_wp2_with fail
      refine (lastsAt_any _ _ _ _ _ (HF.out.ext (X1.out.trans (by repeat (first | exact Ext.refl _ | assumption | apply Ext.alloc | apply Ext.drew | (refine Ext.trans ?_ (by assumption)) | (refine Ext.setNew ?_ (by simp <;> omega) _))))) h0).mono ?_
      rw [hl]
      rintro e w2 ⟨rfl, h2⟩
      have X2 := Lib.hid (X1.out.trans h2)
      clear h2
      go_wp2
      go_ret
      exact ⟨ret_int H.out, X2.out⟩
    · have H := Lib.hid (ctI_in hv hl)
      go_enter Tryz.func30, Tryz.ntmps30
      go_wp2_with fail
      refine (trackValid_any _ _ _ _ (HF.out.ext (by repeat (first | exact Ext.refl _ | assumption | apply Ext.alloc | apply Ext.drew | (refine Ext.trans ?_ (by assumption)) | (refine Ext.setNew ?_ (by simp <;> omega) _))))).mono ?_
      rw [hv]
      rintro e w1 ⟨rfl, h1⟩
      have X1 := Lib.hid (((Ext.refl w).alloc _).trans h1)
      have b1 : w1.cell? ⟨w.heap.size, 0, none⟩ = some (.slice a fs.length cap) := h1.cellOf (boxed 0 rfl rfl)
      clear h1
      go_wp2_with fail
      refine (lastsAt_any _ _ _ _ _ (HF.out.ext (X1.out.trans (by repeat (first | exact Ext.refl _ | assumption | apply Ext.alloc | apply Ext.drew | (refine Ext.trans ?_ (by assumption)) | (refine Ext.setNew ?_ (by simp <;> omega) _))))) h0).mono ?_
      rw [hl]
      rintro e w2 ⟨rfl, h2⟩
      have X2 := Lib.hid (X1.out.trans h2)
      clear h2
      go_wp2
      go_ret
      exact ⟨ret_int H.out, X2.out⟩

theorem legCount_any (a : Option Addr) (cap n : Nat) (w : World) (h1 : 1 ≤ n) (hm : n ≤ 1000000) : Calls Tryz.prog 89 #[Tr (.slice a n cap)] w fun e w' => e = .returned (.int .i64 ((n - 1 : Nat) : Int)) ∧ Ext w w' := by
  have E : ((n - 1 : Nat) : Int) = (n : Int) - 1 := by omega
  have T0 : IntKind.i64.wrap ((n : Int) - 1) = (n : Int) - 1 := wrap_pred h1 (by unfold maxLen; omega)
  go_enter Tryz.func89, Tryz.ntmps89
  go_wp2
  go_ret
  exact ⟨ret_int E, (by repeat (first | exact Ext.refl _ | assumption | apply Ext.alloc | apply Ext.drew | (refine Ext.trans ?_ (by assumption)) | (refine Ext.setNew ?_ (by simp <;> omega) _)))⟩

theorem timeOf_any (f : F3) (w : World) : Calls Tryz.prog 90 #[FxV f] w fun e w' => e = .returned (.int .i64 f.t) ∧ Ext w w' := by
  go_enter Tryz.func90, Tryz.ntmps90
  go_wp2
  go_ret
  exact ⟨rfl, (by repeat (first | exact Ext.refl _ | assumption | apply Ext.alloc | apply Ext.drew | (refine Ext.trans ?_ (by assumption)) | (refine Ext.setNew ?_ (by simp <;> omega) _)))⟩

abbrev Ptr (k : Nat) : Value := .pointer (some ⟨k, 0, none⟩)

theorem above_any (b off cap n i k l m : Nat) (f : F3) (t : Int) (w : World) (hi : i < n) (hc : At w b (off + i * 3) f)
    (hk : w.cell? ⟨k, 0, none⟩ = some (.func (.func 90) #[] #[])) (hl : w.cell? ⟨l, 0, none⟩ = some (.slice (some ⟨b, off, none⟩) n cap)) (hm : w.cell? ⟨m, 0, none⟩ = some (.int .i64 t)) :
    Calls Tryz.prog 114 #[.int .i64 i, Ptr k, Ptr l, Ptr m] w fun e w' => e = .returned (.bool (decide (t < f.t))) ∧ Ext w w' := by
  have i0 : (0 : Int) ≤ (i : Int) := by omega
  have i1 : (i : Int) < (n : Int) := by omega
  obtain ⟨c0, c1, c2⟩ := hc
  have e0 : ∀ w', Ext w w' → w'.cell? ⟨b, off + i * 3, none⟩ = some (.int .i64 f.t) := fun w' h => h.cellOf c0
  have e1 : ∀ w', Ext w w' → w'.cell? ⟨b, off + i * 3 + 1, none⟩ = some (.int .i64 f.x) := fun w' h => h.cellOf c1
  have e2 : ∀ w', Ext w w' → w'.cell? ⟨b, off + i * 3 + 2, none⟩ = some (.int .i64 f.y) := fun w' h => h.cellOf c2
  have e3 : ∀ w', Ext w w' → w'.cell? ⟨k, 0, none⟩ = some (.func (.func 90) #[] #[]) := fun w' h => h.cellOf hk
  have e4 : ∀ w', Ext w w' → w'.cell? ⟨l, 0, none⟩ = some (.slice (some ⟨b, off, none⟩) n cap) := fun w' h => h.cellOf hl
  have e5 : ∀ w', Ext w w' → w'.cell? ⟨m, 0, none⟩ = some (.int .i64 t) := fun w' h => h.cellOf hm
  clear c0 c1 c2 hk hl hm
  go_enter Tryz.func114, Tryz.ntmps114
  go_wp2_with fail
  refine wp_region_held_drew (S := (fun w' => Ext w w')) (by kernel_rfl) (by (try dsimp only); first | go_keep | exact (Ext.refl _).drew | exact Res.new2.drew | exact Res.new4.drew | exact ResB.drew (by assumption) | exact ResC.drew (by assumption) | assumption | exact Ext.drew (by assumption) | exact Res.drew (by assumption)) (fun hHeld => ?_)
  refine Ord.K 0 6 ?_
  refine Ord.K 1 7 ?_
  refine Ord.K 2 8 ?_
  refine Ord.K 3 9 ?_
  refine Ord.K 4 10 ?_
  refine Ord.K 6 12 ?_
  (refine wpAnyH_ready (rs := [5]) (by kernel_rfl) (by simp) ?_; refine AllReadyH.cons rfl (fun K hK => ?_) AllReadyH.nil; go_simp; (go_at_call 90; refine (timeOf_any _ _).mono ?_; rintro e w1 ⟨rfl, hy⟩); go_wp2_with fail; (refine hK.out _ _ (by first | assumption | exact Ext.trans (by assumption) hy | exact Res.ext (by assumption) hy | exact ResB.ext (by assumption) hy | exact ResC.ext (by assumption) hy | (go_split_ands; (repeat' apply And.intro) <;> exact Ext.cellOf hy (by assumption))) (fun hHeld => ?_)); clear hK K; (try simp only [Act.put, Ord.a, Ord.b, Ord.c]))
  refine Ord.K 7 13 ?_
  refine Ord.K 8 5 ?_
  refine wpAnyH_done (by kernel_rfl) ?_ _
  go_wp2
  go_ret
  exact ⟨rfl, by assumption⟩

end Go.Proofs.YtlheppblioglpaaGreat.Trk
