import Derived.Test.YtmlojndkpnhalaaGreatWnd
import Derived.Test.YtmlojndkpnhalaaGreatLth
import Derived.Test.YtmlojndkpnhalaaGreatOrd
import Derived.Deep.DeepCutAuto
import Derived.Laws.EntriesVeiled
namespace Go.Proofs.YtmlojndkpnhalaaGreat.Wnd
open Go.ChangeShapes Go.WideShapes Go.ChangeAt Go.RowKit
open Go.Proofs.YtmlojndkpnhalaaGreat.Num Go.Proofs.YtmlojndkpnhalaaGreat.Kit Go.Proofs.YtmlojndkpnhalaaGreat.Pts Go.Proofs.YtmlojndkpnhalaaGreat.Seg Go.Proofs.YtmlojndkpnhalaaGreat.Gcd
set_option linter.unusedVariables false
set_option linter.unusedSimpArgs false
abbrev PtrW (k : Nat) : Value := .pointer (some ⟨k, 0, none⟩)
def WB (w : World) (k : Nat) (x y : Int) : Prop := w.cell? ⟨k, 0, none⟩ = some (.int .i64 x) ∧ w.cell? ⟨k, 1, none⟩ = some (.int .i64 y)
theorem WB.ext {w w' : World} {k : Nat} {x y : Int} (h : WB w k x y) (e : Ext w w') : WB w' k x y := ⟨e.cellOf h.1, e.cellOf h.2⟩
theorem WB.chg {w w' : World} {k B : Nat} {x y : Int} (h : WB w k x y) (e : Chg B w w') (hB : k ≠ B) : WB w' k x y := ⟨e.cellOf hB h.1, e.cellOf hB h.2⟩
theorem on1 {w : World} {p : Addr} {v : Value} (h : w.cell? p = some v) : ∀ A, (w.alloc A).cell? p = some v := fun A => ((Ext.refl w).alloc A).cellOf h
theorem teller_any (x y : Int) (w : World) : Calls Tryz.prog 271 #[Pt x y] w fun e w' => ∃ k, e = .returned (.func (.func 307) #[] #[PtrW k]) ∧ w.heap.size ≤ k ∧ WB w' k x y ∧ Ext w w' := by
  go_enter Tryz.func271, Tryz.ntmps271
  go_wp2
  go_ret
  exact ⟨_, rfl, Nat.le_refl _, ⟨boxed 0 rfl rfl, boxed 1 rfl rfl⟩, (by repeat (first | exact Ext.refl _ | assumption | apply Ext.alloc | apply Ext.drew | (refine Ext.trans ?_ (by assumption)) | (refine Ext.setNew ?_ (by simp <;> omega) _)))⟩
theorem tell_any (k : Nat) (x y u v : Int) (w : World) (hb : WB w k x y) (hx : -1000 ≤ x ∧ x ≤ 1000) (hy : -1000 ≤ y ∧ y ≤ 1000) (hu : -2000000 ≤ u ∧ u ≤ 2000000) (hv : -2000000 ≤ v ∧ v ≤ 2000000) :
    Calls Tryz.prog 307 #[Pt u v, PtrW k] w fun e w' => e = .returned (.int .i64 (tkN (u * y - v * x))) ∧ Ext w w' := by
  have PA := Lib.hid (fun w => across_any x y u v w hx hy hu hv)
  obtain ⟨d0, d1⟩ := hb
  replace d0 := on1 d0
  replace d1 := on1 d1
  obtain ⟨C, hC⟩ : ∃ C, C = u * y - v * x := ⟨_, rfl⟩
  rw [← hC] at PA ⊢
  clear hC hx hy hu hv
  by_cases h1 : C < 0
  · have H := Lib.hid (show tkN C = 1 from if_pos h1)
    go_enter Tryz.func307, Tryz.ntmps307
    go_wp2_with (go_at_call 308; refine (PA.out _).mono ?_; rintro e w1 ⟨rfl, hx⟩)
    go_ret
    exact ⟨ret_int H.out, (by repeat (first | exact Ext.refl _ | assumption | apply Ext.alloc | apply Ext.drew | (refine Ext.trans ?_ (by assumption)) | (refine Ext.setNew ?_ (by simp <;> omega) _)))⟩
  by_cases h2 : 0 < C
  · have H := Lib.hid (show tkN C = 2 by unfold tkN; rw [if_neg h1, if_pos h2])
    go_enter Tryz.func307, Tryz.ntmps307
    go_wp2_with (go_at_call 308; refine (PA.out _).mono ?_; rintro e w1 ⟨rfl, hx⟩)
    go_ret
    exact ⟨ret_int H.out, (by repeat (first | exact Ext.refl _ | assumption | apply Ext.alloc | apply Ext.drew | (refine Ext.trans ?_ (by assumption)) | (refine Ext.setNew ?_ (by simp <;> omega) _)))⟩
  · have H := Lib.hid (show tkN C = 0 by unfold tkN; rw [if_neg h1, if_neg h2])
    go_enter Tryz.func307, Tryz.ntmps307
    go_wp2_with (go_at_call 308; refine (PA.out _).mono ?_; rintro e w1 ⟨rfl, hx⟩)
    go_ret
    exact ⟨ret_int H.out, (by repeat (first | exact Ext.refl _ | assumption | apply Ext.alloc | apply Ext.drew | (refine Ext.trans ?_ (by assumption)) | (refine Ext.setNew ?_ (by simp <;> omega) _)))⟩
def slN (c d : Int) : Int := if d < 0 ∧ ab c ≤ -d then 1 else if 0 < d ∧ ab c ≤ d then 3 else 2
theorem cd_not {x y u v : Int} (hw : ¬ (x = 0 ∧ y = 0)) (hh : ¬ (u = 0 ∧ v = 0)) (hc : u * y - v * x = 0) (hd : u * x + v * y = 0) : False := by
  have a : u * (x * x + y * y) = 0 := by
    have : u * (x * x + y * y) = (u * x + v * y) * x + (u * y - v * x) * y := by grind
    rw [this, hc, hd]; simp
  have b : v * (x * x + y * y) = 0 := by
    have : v * (x * x + y * y) = (u * x + v * y) * y - (u * y - v * x) * x := by grind
    rw [this, hc, hd]; simp
  have p : 1 ≤ x * x + y * y := by
    by_cases h : x = 0
    · have := Lth.sq_pos (show y ≠ 0 from fun e => hw ⟨h, e⟩); have := Lth.sq_nn x; omega
    · have := Lth.sq_pos h; have := Lth.sq_nn y; omega
  rcases Int.mul_eq_zero.1 a with a | a
  · rcases Int.mul_eq_zero.1 b with b | b
    · exact hh ⟨a, b⟩
    · omega
  · omega
theorem sl_reach {c d : Int} (h : ab d < ab c) : slN c d = 2 := by
  unfold ab at h
  unfold slN ab
  split at h <;> split at h <;> (rw [if_neg (by split <;> omega), if_neg (by split <;> omega)])
theorem sl_up {c d : Int} (h : ¬ ab d < ab c) (hd : d < 0) : slN c d = 1 := by
  unfold ab at h
  unfold slN ab
  rw [if_pos ⟨hd, by split <;> split at h <;> first | omega | (split at h <;> omega)⟩]
theorem sl_down {c d : Int} (h : ¬ ab d < ab c) (hd : ¬ d < 0) (hn : ¬ (c = 0 ∧ d = 0)) : slN c d = 3 := by
  unfold ab at h
  unfold slN ab
  rw [if_neg (by omega), if_pos ⟨by split at h <;> split at h <;> omega, by split <;> split at h <;> first | omega | (split at h <;> omega)⟩]
set_option maxHeartbeats 2000000 in
theorem sailOf_any (x y u v : Int) (w : World) (hx : -1000 ≤ x ∧ x ≤ 1000) (hy : -1000 ≤ y ∧ y ≤ 1000) (hu : -2000000 ≤ u ∧ u ≤ 2000000) (hv : -2000000 ≤ v ∧ v ≤ 2000000) (hw : ¬ (x = 0 ∧ y = 0)) (hh : ¬ (u = 0 ∧ v = 0)) :
    Calls Tryz.prog 280 #[Pt x y, Pt u v] w fun e w' => e = .returned (.int .i64 (slN (u * y - v * x) (u * x + v * y))) ∧ Ext w w' := by
  have PA := Lib.hid (fun w => across_any x y u v w hx hy hu hv)
  have PL := Lib.hid (fun w => along_any x y u v w hx hy hu hv)
  have HN : ¬ (u * y - v * x = 0 ∧ u * x + v * y = 0) := fun h => cd_not hw hh h.1 h.2
  obtain ⟨⟨b1, b2⟩, b3, b4⟩ := prod_bd hx hy hu hv
  obtain ⟨C, hC⟩ : ∃ C, C = u * y - v * x := ⟨_, rfl⟩
  obtain ⟨D, hD⟩ : ∃ D, D = u * x + v * y := ⟨_, rfl⟩
  rw [← hC] at PA HN b3 b4 ⊢
  rw [← hD] at PL HN b1 b2 ⊢
  clear hC hD hx hy hu hv hw hh
  have AC := Lib.hid (fun w => absolute_any C w (by omega) (by omega))
  have AD := Lib.hid (fun w => absolute_any D w (by omega) (by omega))
  have key : (ab D < ab C ∧ slN C D = 2) ∨ (¬ ab D < ab C ∧ D < 0 ∧ slN C D = 1) ∨ (¬ ab D < ab C ∧ ¬ D < 0 ∧ slN C D = 3) := by
    by_cases h : ab D < ab C
    · exact .inl ⟨h, sl_reach h⟩
    · by_cases hd : D < 0
      · exact .inr (.inl ⟨h, hd, sl_up h hd⟩)
      · exact .inr (.inr ⟨h, hd, sl_down h hd HN⟩)
  clear HN b1 b2 b3 b4
  generalize slN C D = R at *
  generalize ab C = c at *
  generalize ab D = d at *
  obtain ⟨W0, hW0⟩ : ∃ W0, W0 = (w.alloc (.cells #[.int .i64 x, .int .i64 y] 54)).alloc (.cells #[.int .i64 u, .int .i64 v] 25) := ⟨_, rfl⟩
  have hX : Ext w W0 := hW0 ▸ (((Ext.refl w).alloc _).alloc _)
  have hs0 : W0.heap.size = w.heap.size + 1 + 1 := by rw [hW0]; simp
  have e00 : ∀ w', (Ext W0) w' → w'.cell? ⟨w.heap.size, 0, none⟩ = some (.int .i64 x) := fun w' h => h.cellOf (by rw [hW0]; exact ((Ext.refl _).alloc _).cellOf (boxed 0 rfl (by simp)))
  have e01 : ∀ w', (Ext W0) w' → w'.cell? ⟨w.heap.size, 1, none⟩ = some (.int .i64 y) := fun w' h => h.cellOf (by rw [hW0]; exact ((Ext.refl _).alloc _).cellOf (boxed 1 rfl (by simp)))
  have e10 : ∀ w', (Ext W0) w' → w'.cell? ⟨w.heap.size + 1, 0, none⟩ = some (.int .i64 u) := fun w' h => h.cellOf (by rw [hW0]; exact boxed 0 rfl (by simp))
  have e11 : ∀ w', (Ext W0) w' → w'.cell? ⟨w.heap.size + 1, 1, none⟩ = some (.int .i64 v) := fun w' h => h.cellOf (by rw [hW0]; exact boxed 1 rfl (by simp))
  have hr := Ext.refl W0
  rcases key with ⟨h, rfl⟩ | ⟨h, h2, rfl⟩ | ⟨h, h2, rfl⟩
  all_goals
    go_enter Tryz.func280, Tryz.ntmps280
    go_wp2_with fail
    rw [← hW0]
    clear hW0
    refine wp_region_held_drew (S := (fun w' => Ext W0 w')) (by kernel_rfl) (by (try dsimp only); first | go_keep | exact (Ext.refl _).drew | exact Res.new2.drew | exact Res.new4.drew | exact ResB.drew (by assumption) | exact ResC.drew (by assumption) | assumption | exact Ext.drew (by assumption) | exact Res.drew (by assumption)) (fun hHeld => ?_)
    refine Ord.K 0 7 ?_
    refine Ord.K 1 8 ?_
    refine Ord.K 4 11 ?_
    refine Ord.K 5 12 ?_
    (refine wpAnyH_ready (rs := [2]) (by kernel_rfl) (by simp) ?_; refine AllReadyH.cons rfl (fun K hK => ?_) AllReadyH.nil; go_simp; (first | (go_at_call 308; refine (PA.out _).mono ?_; rintro e w1 ⟨rfl, hy⟩) | (go_at_call 311; refine (PL.out _).mono ?_; rintro e w1 ⟨rfl, hy⟩) | (go_at_call 162; refine (AC.out _).mono ?_; rintro e w1 ⟨rfl, rfl⟩)); go_wp2_with fail; (refine hK.out _ _ (by first | assumption | exact Ext.trans (by assumption) hy | exact Res.ext (by assumption) hy | exact ResB.ext (by assumption) hy | exact ResC.ext (by assumption) hy | (go_split_ands; (repeat' apply And.intro) <;> exact Ext.cellOf hy (by assumption))) (fun hHeld => ?_)); clear hK K; (try simp only [Act.put, Ord.a, Ord.b, Ord.c]))
    (refine wpAnyH_ready (rs := [3]) (by kernel_rfl) (by simp) ?_; refine AllReadyH.cons rfl (fun K hK => ?_) AllReadyH.nil; go_simp; (first | (go_at_call 308; refine (PA.out _).mono ?_; rintro e w1 ⟨rfl, hy⟩) | (go_at_call 311; refine (PL.out _).mono ?_; rintro e w1 ⟨rfl, hy⟩) | (go_at_call 162; refine (AC.out _).mono ?_; rintro e w1 ⟨rfl, rfl⟩)); go_wp2_with fail; (refine hK.out _ _ (by first | assumption | exact Ext.trans (by assumption) hy | exact Res.ext (by assumption) hy | exact ResB.ext (by assumption) hy | exact ResC.ext (by assumption) hy | (go_split_ands; (repeat' apply And.intro) <;> exact Ext.cellOf hy (by assumption))) (fun hHeld => ?_)); clear hK K; (try simp only [Act.put, Ord.a, Ord.b, Ord.c]))
    (refine wpAnyH_ready (rs := [6]) (by kernel_rfl) (by simp) ?_; refine AllReadyH.cons rfl (fun K hK => ?_) AllReadyH.nil; go_simp; (first | (go_at_call 308; refine (PA.out _).mono ?_; rintro e w1 ⟨rfl, hy⟩) | (go_at_call 311; refine (PL.out _).mono ?_; rintro e w1 ⟨rfl, hy⟩) | (go_at_call 162; refine (AC.out _).mono ?_; rintro e w1 ⟨rfl, rfl⟩)); go_wp2_with fail; (refine hK.out _ _ (by first | assumption | exact Ext.trans (by assumption) hy | exact Res.ext (by assumption) hy | exact ResB.ext (by assumption) hy | exact ResC.ext (by assumption) hy | (go_split_ands; (repeat' apply And.intro) <;> exact Ext.cellOf hy (by assumption))) (fun hHeld => ?_)); clear hK K; (try simp only [Act.put, Ord.a, Ord.b, Ord.c]))
    refine Ord.K 7 5 ?_
    refine Ord.K 8 6 ?_
    refine wpAnyH_done (by kernel_rfl) ?_ _
    have hH := Lib.hid hHeld
    go_wp2_with (go_at_call 162; refine (AD.out _).mono ?_; rintro e w1 ⟨rfl, rfl⟩)
    go_ret
    exact ⟨rfl, hX.trans hH.out⟩
set_option maxHeartbeats 2000000 in
theorem tackS_any (x y u v : Int) (w : World) (hx : -1000 ≤ x ∧ x ≤ 1000) (hy : -1000 ≤ y ∧ y ≤ 1000) (hu : -2000000 ≤ u ∧ u ≤ 2000000) (hv : -2000000 ≤ v ∧ v ≤ 2000000) :
    Calls Tryz.prog 155 #[Pt x y, Pt u v] w fun e w' => e = .returned (.int .i64 (tkN (u * y - v * x))) ∧ Ext w w' := by
  have PA := Lib.hid (fun w => crossS_any u v x y w hu hv (by omega) (by omega))
  obtain ⟨C, hC⟩ : ∃ C, C = u * y - v * x := ⟨_, rfl⟩
  rw [← hC] at PA ⊢
  clear hC hx hy hu hv
  have key : (sgn C = -1 ∧ tkN C = 1) ∨ (sgn C = 1 ∧ tkN C = 2) ∨ (sgn C = 0 ∧ tkN C = 0) := by
    unfold sgn tkN
    by_cases h1 : C < 0
    · simp [h1]
    · by_cases h2 : 0 < C
      · simp [h1, h2]
      · simp [h1, h2]
  have PS := Lib.hid (fun w => sign_any C w)
  generalize tkN C = R at *
  generalize sgn C = S at *
  obtain ⟨W0, hW0⟩ : ∃ W0, W0 = (w.alloc (.cells #[.int .i64 x, .int .i64 y] 54)).alloc (.cells #[.int .i64 u, .int .i64 v] 25) := ⟨_, rfl⟩
  have hX : Ext w W0 := hW0 ▸ (((Ext.refl w).alloc _).alloc _)
  have hs0 : W0.heap.size = w.heap.size + 1 + 1 := by rw [hW0]; simp
  have e00 : ∀ w', (Ext W0) w' → w'.cell? ⟨w.heap.size, 0, none⟩ = some (.int .i64 x) := fun w' h => h.cellOf (by rw [hW0]; exact ((Ext.refl _).alloc _).cellOf (boxed 0 rfl (by simp)))
  have e01 : ∀ w', (Ext W0) w' → w'.cell? ⟨w.heap.size, 1, none⟩ = some (.int .i64 y) := fun w' h => h.cellOf (by rw [hW0]; exact ((Ext.refl _).alloc _).cellOf (boxed 1 rfl (by simp)))
  have e10 : ∀ w', (Ext W0) w' → w'.cell? ⟨w.heap.size + 1, 0, none⟩ = some (.int .i64 u) := fun w' h => h.cellOf (by rw [hW0]; exact boxed 0 rfl (by simp))
  have e11 : ∀ w', (Ext W0) w' → w'.cell? ⟨w.heap.size + 1, 1, none⟩ = some (.int .i64 v) := fun w' h => h.cellOf (by rw [hW0]; exact boxed 1 rfl (by simp))
  have hr := Ext.refl W0
  rcases key with ⟨rfl, rfl⟩ | ⟨rfl, rfl⟩ | ⟨rfl, rfl⟩
  all_goals
    go_enter Tryz.func155, Tryz.ntmps155
    go_wp2_with fail
    rw [← hW0]
    clear hW0
    refine wp_region_held_drew (S := (fun w' => Ext W0 w')) (by kernel_rfl) (by (try dsimp only); first | go_keep | exact (Ext.refl _).drew | exact Res.new2.drew | exact Res.new4.drew | exact ResB.drew (by assumption) | exact ResC.drew (by assumption) | assumption | exact Ext.drew (by assumption) | exact Res.drew (by assumption)) (fun hHeld => ?_)
    refine Ord.K 0 5 ?_
    refine Ord.K 1 6 ?_
    (refine wpAnyH_ready (rs := [2]) (by kernel_rfl) (by simp) ?_; refine AllReadyH.cons rfl (fun K hK => ?_) AllReadyH.nil; go_simp; (first | (go_at_call 216; refine (vectorS_any _ _ _).mono ?_; rintro e w1 ⟨rfl, hy⟩) | (go_at_call 215; refine (PA.out _).mono ?_; rintro e w1 ⟨rfl, hy⟩) | (go_at_call 214; refine (PS.out _).mono ?_; rintro e w1 ⟨rfl, rfl⟩)); go_wp2_with fail; (refine hK.out _ _ (by first | assumption | exact Ext.trans (by assumption) hy | exact Res.ext (by assumption) hy | exact ResB.ext (by assumption) hy | exact ResC.ext (by assumption) hy | (go_split_ands; (repeat' apply And.intro) <;> exact Ext.cellOf hy (by assumption))) (fun hHeld => ?_)); clear hK K; (try simp only [Act.put, Ord.a, Ord.b, Ord.c]))
    (refine wpAnyH_ready (rs := [3]) (by kernel_rfl) (by simp) ?_; refine AllReadyH.cons rfl (fun K hK => ?_) AllReadyH.nil; go_simp; (first | (go_at_call 216; refine (vectorS_any _ _ _).mono ?_; rintro e w1 ⟨rfl, hy⟩) | (go_at_call 215; refine (PA.out _).mono ?_; rintro e w1 ⟨rfl, hy⟩) | (go_at_call 214; refine (PS.out _).mono ?_; rintro e w1 ⟨rfl, rfl⟩)); go_wp2_with fail; (refine hK.out _ _ (by first | assumption | exact Ext.trans (by assumption) hy | exact Res.ext (by assumption) hy | exact ResB.ext (by assumption) hy | exact ResC.ext (by assumption) hy | (go_split_ands; (repeat' apply And.intro) <;> exact Ext.cellOf hy (by assumption))) (fun hHeld => ?_)); clear hK K; (try simp only [Act.put, Ord.a, Ord.b, Ord.c]))
    (refine wpAnyH_ready (rs := [4]) (by kernel_rfl) (by simp) ?_; refine AllReadyH.cons rfl (fun K hK => ?_) AllReadyH.nil; go_simp; (first | (go_at_call 216; refine (vectorS_any _ _ _).mono ?_; rintro e w1 ⟨rfl, hy⟩) | (go_at_call 215; refine (PA.out _).mono ?_; rintro e w1 ⟨rfl, hy⟩) | (go_at_call 214; refine (PS.out _).mono ?_; rintro e w1 ⟨rfl, rfl⟩)); go_wp2_with fail; (refine hK.out _ _ (by first | assumption | exact Ext.trans (by assumption) hy | exact Res.ext (by assumption) hy | exact ResB.ext (by assumption) hy | exact ResC.ext (by assumption) hy | (go_split_ands; (repeat' apply And.intro) <;> exact Ext.cellOf hy (by assumption))) (fun hHeld => ?_)); clear hK K; (try simp only [Act.put, Ord.a, Ord.b, Ord.c]))
    refine wpAnyH_done (by kernel_rfl) ?_ _
    have hH := Lib.hid hHeld
    go_wp2
    go_ret
    exact ⟨rfl, hX.trans hH.out⟩
set_option maxHeartbeats 2000000 in
theorem sailS_any (x y u v : Int) (w : World) (hx : -1000 ≤ x ∧ x ≤ 1000) (hy : -1000 ≤ y ∧ y ≤ 1000) (hu : -2000000 ≤ u ∧ u ≤ 2000000) (hv : -2000000 ≤ v ∧ v ≤ 2000000) :
    Calls Tryz.prog 233 #[Pt x y, Pt u v] w fun e w' => e = .returned (.int .i64 (slN (u * y - v * x) (u * x + v * y))) ∧ Ext w w' := by
  have PA := Lib.hid (fun w => crossS_any u v x y w hu hv (by omega) (by omega))
  have PD := Lib.hid (fun w => dot_any u v x y w hu hv (by omega) (by omega))
  obtain ⟨⟨b1, b2⟩, b3, b4⟩ := prod_bd hx hy hu hv
  obtain ⟨C, hC⟩ : ∃ C, C = u * y - v * x := ⟨_, rfl⟩
  obtain ⟨D, hD⟩ : ∃ D, D = u * x + v * y := ⟨_, rfl⟩
  rw [← hC] at PA b3 b4 ⊢
  rw [← hD] at PD b1 b2 ⊢
  clear hC hD hx hy hu hv
  have AC := Lib.hid (fun w => absS_any C w (by omega) (by omega))
  have TN : IntKind.i64.wrap (-D) = -D := IntWalk.i64_in _ (by omega)
  have key : (D < 0 ∧ ab C ≤ -D ∧ slN C D = 1) ∨ (D < 0 ∧ ¬ ab C ≤ -D ∧ ¬ 0 < D ∧ slN C D = 2) ∨ (¬ D < 0 ∧ 0 < D ∧ ab C ≤ D ∧ slN C D = 3) ∨ (¬ D < 0 ∧ 0 < D ∧ ¬ ab C ≤ D ∧ slN C D = 2) ∨ (¬ D < 0 ∧ ¬ 0 < D ∧ slN C D = 2) := by
    unfold slN
    by_cases h1 : D < 0
    · by_cases h2 : ab C ≤ -D
      · exact .inl ⟨h1, h2, if_pos ⟨h1, h2⟩⟩
      · exact .inr (.inl ⟨h1, h2, by omega, by rw [if_neg (fun h => h2 h.2), if_neg (fun h => by omega)]⟩)
    · by_cases h3 : 0 < D
      · by_cases h2 : ab C ≤ D
        · exact .inr (.inr (.inl ⟨h1, h3, h2, by rw [if_neg (fun h => h1 h.1), if_pos ⟨h3, h2⟩]⟩))
        · exact .inr (.inr (.inr (.inl ⟨h1, h3, h2, by rw [if_neg (fun h => h1 h.1), if_neg (fun h => h2 h.2)]⟩)))
      · exact .inr (.inr (.inr (.inr ⟨h1, h3, by rw [if_neg (fun h => h1 h.1), if_neg (fun h => h3 h.1)]⟩)))
  clear b1 b2 b3 b4
  generalize slN C D = R at *
  generalize ab C = c at *
  obtain ⟨W0, hW0⟩ : ∃ W0, W0 = (w.alloc (.cells #[.int .i64 x, .int .i64 y] 54)).alloc (.cells #[.int .i64 u, .int .i64 v] 25) := ⟨_, rfl⟩
  have hX : Ext w W0 := hW0 ▸ (((Ext.refl w).alloc _).alloc _)
  have hs0 : W0.heap.size = w.heap.size + 1 + 1 := by rw [hW0]; simp
  have e00 : ∀ w', (Ext W0) w' → w'.cell? ⟨w.heap.size, 0, none⟩ = some (.int .i64 x) := fun w' h => h.cellOf (by rw [hW0]; exact ((Ext.refl _).alloc _).cellOf (boxed 0 rfl (by simp)))
  have e01 : ∀ w', (Ext W0) w' → w'.cell? ⟨w.heap.size, 1, none⟩ = some (.int .i64 y) := fun w' h => h.cellOf (by rw [hW0]; exact ((Ext.refl _).alloc _).cellOf (boxed 1 rfl (by simp)))
  have e10 : ∀ w', (Ext W0) w' → w'.cell? ⟨w.heap.size + 1, 0, none⟩ = some (.int .i64 u) := fun w' h => h.cellOf (by rw [hW0]; exact boxed 0 rfl (by simp))
  have e11 : ∀ w', (Ext W0) w' → w'.cell? ⟨w.heap.size + 1, 1, none⟩ = some (.int .i64 v) := fun w' h => h.cellOf (by rw [hW0]; exact boxed 1 rfl (by simp))
  have hr := Ext.refl W0
  rcases key with ⟨h1, h2, rfl⟩ | ⟨h1, h2, h3, rfl⟩ | ⟨h1, h2, h3, rfl⟩ | ⟨h1, h2, h3, rfl⟩ | ⟨h1, h2, rfl⟩
  all_goals
    go_enter Tryz.func233, Tryz.ntmps233
    go_wp2_with fail
    rw [← hW0]
    clear hW0
    refine wp_region_held_drew (S := (fun w' => Ext W0 w')) (by kernel_rfl) (by (try dsimp only); first | go_keep | exact (Ext.refl _).drew | exact Res.new2.drew | exact Res.new4.drew | exact ResB.drew (by assumption) | exact ResC.drew (by assumption) | assumption | exact Ext.drew (by assumption) | exact Res.drew (by assumption)) (fun hHeld => ?_)
    refine Ord.K 0 7 ?_
    refine Ord.K 1 8 ?_
    refine Ord.K 5 12 ?_
    refine Ord.K 6 13 ?_
    (refine wpAnyH_ready (rs := [2]) (by kernel_rfl) (by simp) ?_; refine AllReadyH.cons rfl (fun K hK => ?_) AllReadyH.nil; go_simp; (first | (go_at_call 216; refine (vectorS_any _ _ _).mono ?_; rintro e w1 ⟨rfl, hy⟩) | (go_at_call 215; refine (PA.out _).mono ?_; rintro e w1 ⟨rfl, hy⟩) | (go_at_call 133; refine (PD.out _).mono ?_; rintro e w1 ⟨rfl, hy⟩) | (go_at_call 259; refine (AC.out _).mono ?_; rintro e w1 ⟨rfl, rfl⟩)); go_wp2_with fail; (refine hK.out _ _ (by first | assumption | exact Ext.trans (by assumption) hy | exact Res.ext (by assumption) hy | exact ResB.ext (by assumption) hy | exact ResC.ext (by assumption) hy | (go_split_ands; (repeat' apply And.intro) <;> exact Ext.cellOf hy (by assumption))) (fun hHeld => ?_)); clear hK K; (try simp only [Act.put, Ord.a, Ord.b, Ord.c]))
    (refine wpAnyH_ready (rs := [3]) (by kernel_rfl) (by simp) ?_; refine AllReadyH.cons rfl (fun K hK => ?_) AllReadyH.nil; go_simp; (first | (go_at_call 216; refine (vectorS_any _ _ _).mono ?_; rintro e w1 ⟨rfl, hy⟩) | (go_at_call 215; refine (PA.out _).mono ?_; rintro e w1 ⟨rfl, hy⟩) | (go_at_call 133; refine (PD.out _).mono ?_; rintro e w1 ⟨rfl, hy⟩) | (go_at_call 259; refine (AC.out _).mono ?_; rintro e w1 ⟨rfl, rfl⟩)); go_wp2_with fail; (refine hK.out _ _ (by first | assumption | exact Ext.trans (by assumption) hy | exact Res.ext (by assumption) hy | exact ResB.ext (by assumption) hy | exact ResC.ext (by assumption) hy | (go_split_ands; (repeat' apply And.intro) <;> exact Ext.cellOf hy (by assumption))) (fun hHeld => ?_)); clear hK K; (try simp only [Act.put, Ord.a, Ord.b, Ord.c]))
    (refine wpAnyH_ready (rs := [4]) (by kernel_rfl) (by simp) ?_; refine AllReadyH.cons rfl (fun K hK => ?_) AllReadyH.nil; go_simp; (first | (go_at_call 216; refine (vectorS_any _ _ _).mono ?_; rintro e w1 ⟨rfl, hy⟩) | (go_at_call 215; refine (PA.out _).mono ?_; rintro e w1 ⟨rfl, hy⟩) | (go_at_call 133; refine (PD.out _).mono ?_; rintro e w1 ⟨rfl, hy⟩) | (go_at_call 259; refine (AC.out _).mono ?_; rintro e w1 ⟨rfl, rfl⟩)); go_wp2_with fail; (refine hK.out _ _ (by first | assumption | exact Ext.trans (by assumption) hy | exact Res.ext (by assumption) hy | exact ResB.ext (by assumption) hy | exact ResC.ext (by assumption) hy | (go_split_ands; (repeat' apply And.intro) <;> exact Ext.cellOf hy (by assumption))) (fun hHeld => ?_)); clear hK K; (try simp only [Act.put, Ord.a, Ord.b, Ord.c]))
    (refine wpAnyH_ready (rs := [7]) (by kernel_rfl) (by simp) ?_; refine AllReadyH.cons rfl (fun K hK => ?_) AllReadyH.nil; go_simp; (first | (go_at_call 216; refine (vectorS_any _ _ _).mono ?_; rintro e w1 ⟨rfl, hy⟩) | (go_at_call 215; refine (PA.out _).mono ?_; rintro e w1 ⟨rfl, hy⟩) | (go_at_call 133; refine (PD.out _).mono ?_; rintro e w1 ⟨rfl, hy⟩) | (go_at_call 259; refine (AC.out _).mono ?_; rintro e w1 ⟨rfl, rfl⟩)); go_wp2_with fail; (refine hK.out _ _ (by first | assumption | exact Ext.trans (by assumption) hy | exact Res.ext (by assumption) hy | exact ResB.ext (by assumption) hy | exact ResC.ext (by assumption) hy | (go_split_ands; (repeat' apply And.intro) <;> exact Ext.cellOf hy (by assumption))) (fun hHeld => ?_)); clear hK K; (try simp only [Act.put, Ord.a, Ord.b, Ord.c]))
    (refine wpAnyH_ready (rs := [8]) (by kernel_rfl) (by simp) ?_; refine AllReadyH.cons rfl (fun K hK => ?_) AllReadyH.nil; go_simp; (first | (go_at_call 216; refine (vectorS_any _ _ _).mono ?_; rintro e w1 ⟨rfl, hy⟩) | (go_at_call 215; refine (PA.out _).mono ?_; rintro e w1 ⟨rfl, hy⟩) | (go_at_call 133; refine (PD.out _).mono ?_; rintro e w1 ⟨rfl, hy⟩) | (go_at_call 259; refine (AC.out _).mono ?_; rintro e w1 ⟨rfl, rfl⟩)); go_wp2_with fail; (refine hK.out _ _ (by first | assumption | exact Ext.trans (by assumption) hy | exact Res.ext (by assumption) hy | exact ResB.ext (by assumption) hy | exact ResC.ext (by assumption) hy | (go_split_ands; (repeat' apply And.intro) <;> exact Ext.cellOf hy (by assumption))) (fun hHeld => ?_)); clear hK K; (try simp only [Act.put, Ord.a, Ord.b, Ord.c]))
    refine Ord.K 9 5 ?_
    refine Ord.K 10 6 ?_
    refine wpAnyH_done (by kernel_rfl) ?_ _
    have hH := Lib.hid hHeld
    go_wp2
    go_ret
    exact ⟨rfl, hX.trans hH.out⟩
end Go.Proofs.YtmlojndkpnhalaaGreat.Wnd
