/- The tack of a heading and its point of sailing (impl, spec); TackOf, SailOf of both. -/
import Derived.Test.YtkodmdfcppnfoaaWnd
import Derived.Test.YtkodmdfcppnfoaaLth
import Derived.Test.YtkodmdfcppnfoaaOrd
import Derived.Deep.DeepCutAuto
import Derived.Laws.EntriesVeiled
namespace Go.Proofs.Ytkodmdfcppnfoaa.Wnd
open Go.ChangeShapes Go.WideShapes Go.ChangeAt Go.RowKit
open Go.Proofs.Ytkodmdfcppnfoaa.Num Go.Proofs.Ytkodmdfcppnfoaa.Kit Go.Proofs.Ytkodmdfcppnfoaa.Pts Go.Proofs.Ytkodmdfcppnfoaa.Seg Go.Proofs.Ytkodmdfcppnfoaa.Gcd
set_option linter.unusedVariables false
set_option linter.unusedSimpArgs false

abbrev PtrW (k : Nat) : Value := .pointer (some ⟨k, 0, none⟩)
/-- The box of a wind that a closure holds. -/
def WB (w : World) (k : Nat) (x y : Int) : Prop := w.cell? ⟨k, 0, none⟩ = some (.int .i64 x) ∧ w.cell? ⟨k, 1, none⟩ = some (.int .i64 y)
theorem WB.ext {w w' : World} {k : Nat} {x y : Int} (h : WB w k x y) (e : Ext w w') : WB w' k x y := ⟨e.cellOf h.1, e.cellOf h.2⟩
theorem WB.chg {w w' : World} {k B : Nat} {x y : Int} (h : WB w k x y) (e : Chg B w w') (hB : k ≠ B) : WB w' k x y := ⟨e.cellOf hB h.1, e.cellOf hB h.2⟩

theorem on1 {w : World} {p : Addr} {v : Value} (h : w.cell? p = some v) : ∀ A, (w.alloc A).cell? p = some v := fun A => ((Ext.refl w).alloc A).cellOf h

theorem teller_any (x y : Int) (w : World) : Calls Try.prog 50 #[Pt x y] w fun e w' => ∃ k, e = .returned (.func (.func 87) #[] #[PtrW k]) ∧ w.heap.size ≤ k ∧ WB w' k x y ∧ Ext w w' := by
  go_enter Try.func50, Try.ntmps50
  go_wp2
  go_ret
  exact ⟨_, rfl, Nat.le_refl _, ⟨boxed 0 rfl rfl, boxed 1 rfl rfl⟩, (by repeat (first | exact Ext.refl _ | assumption | apply Ext.alloc | apply Ext.drew | (refine Ext.trans ?_ (by assumption)) | (refine Ext.setNew ?_ (by simp <;> omega) _)))⟩

theorem tell_any (k : Nat) (x y u v : Int) (w : World) (hb : WB w k x y) (hx : -1000 ≤ x ∧ x ≤ 1000) (hy : -1000 ≤ y ∧ y ≤ 1000) (hu : -2000000 ≤ u ∧ u ≤ 2000000) (hv : -2000000 ≤ v ∧ v ≤ 2000000) :
    Calls Try.prog 87 #[Pt u v, PtrW k] w fun e w' => e = .returned (.int .i64 (tkN (u * y - v * x))) ∧ Ext w w' := by
  have PA := Lib.hid (fun w => across_any x y u v w hx hy hu hv)
  obtain ⟨d0, d1⟩ := hb
  replace d0 := on1 d0
  replace d1 := on1 d1
  obtain ⟨C, hC⟩ : ∃ C, C = u * y - v * x := ⟨_, rfl⟩
  rw [← hC] at PA ⊢
  clear hC hx hy hu hv
  by_cases h1 : C < 0
  · have H := Lib.hid (show tkN C = 1 from if_pos h1)
    go_enter Try.func87, Try.ntmps87
    go_wp2_with (go_at_call 88; refine (PA.out _).mono ?_; rintro e w1 ⟨rfl, hx⟩)
    go_ret
    exact ⟨ret_int H.out, (by repeat (first | exact Ext.refl _ | assumption | apply Ext.alloc | apply Ext.drew | (refine Ext.trans ?_ (by assumption)) | (refine Ext.setNew ?_ (by simp <;> omega) _)))⟩
  by_cases h2 : 0 < C
  · have H := Lib.hid (show tkN C = 2 by unfold tkN; rw [if_neg h1, if_pos h2])
    go_enter Try.func87, Try.ntmps87
    go_wp2_with (go_at_call 88; refine (PA.out _).mono ?_; rintro e w1 ⟨rfl, hx⟩)
    go_ret
    exact ⟨ret_int H.out, (by repeat (first | exact Ext.refl _ | assumption | apply Ext.alloc | apply Ext.drew | (refine Ext.trans ?_ (by assumption)) | (refine Ext.setNew ?_ (by simp <;> omega) _)))⟩
  · have H := Lib.hid (show tkN C = 0 by unfold tkN; rw [if_neg h1, if_neg h2])
    go_enter Try.func87, Try.ntmps87
    go_wp2_with (go_at_call 88; refine (PA.out _).mono ?_; rintro e w1 ⟨rfl, hx⟩)
    go_ret
    exact ⟨ret_int H.out, (by repeat (first | exact Ext.refl _ | assumption | apply Ext.alloc | apply Ext.drew | (refine Ext.trans ?_ (by assumption)) | (refine Ext.setNew ?_ (by simp <;> omega) _)))⟩

/-- The point of sailing, out of the cross and the scalar product. -/
def slN (c d : Int) : Int := if d < 0 ∧ ab c ≤ -d then 1 else if 0 < d ∧ ab c ≤ d then 3 else 2
theorem cd_not {x y u v : Int} (hw : ¬ (x = 0 ∧ y = 0)) (hh : ¬ (u = 0 ∧ v = 0)) (hc : u * y - v * x = 0) (hd : u * x + v * y = 0) : False := by
  have a : u * (x * x + y * y) = 0 := by
    have : u * (x * x + y * y) = (u * x + v * y) * x + (u * y - v * x) * y := by grind
    rw [this, hc, hd]; simp
  have b : v * (x * x + y * y) = 0 := by
    have : v * (x * x + y * y) = (u * x + v * y) * y - (u * y - v * x) * x := by grind
    rw [this, hc, hd]; simp
  have p : 1 ≤ x * x + y * y := by
    by_cases h : x = 0
    · have := Lth.sq_pos (show y ≠ 0 from fun e => hw ⟨h, e⟩); have := Lth.sq_nn x; omega
    · have := Lth.sq_pos h; have := Lth.sq_nn y; omega
  rcases Int.mul_eq_zero.1 a with a | a
  · rcases Int.mul_eq_zero.1 b with b | b
    · exact hh ⟨a, b⟩
    · omega
  · omega
theorem sl_reach {c d : Int} (h : ab d < ab c) : slN c d = 2 := by
  unfold ab at h
  unfold slN ab
  split at h <;> split at h <;> (rw [if_neg (by split <;> omega), if_neg (by split <;> omega)])
theorem sl_up {c d : Int} (h : ¬ ab d < ab c) (hd : d < 0) : slN c d = 1 := by
  unfold ab at h
  unfold slN ab
  rw [if_pos ⟨hd, by split <;> split at h <;> first | omega | (split at h <;> omega)⟩]
theorem sl_down {c d : Int} (h : ¬ ab d < ab c) (hd : ¬ d < 0) (hn : ¬ (c = 0 ∧ d = 0)) : slN c d = 3 := by
  unfold ab at h
  unfold slN ab
  rw [if_neg (by omega), if_pos ⟨by split at h <;> split at h <;> omega, by split <;> split at h <;> first | omega | (split at h <;> omega)⟩]

set_option maxHeartbeats 2000000 in
theorem sailOf_any (x y u v : Int) (w : World) (hx : -1000 ≤ x ∧ x ≤ 1000) (hy : -1000 ≤ y ∧ y ≤ 1000) (hu : -2000000 ≤ u ∧ u ≤ 2000000) (hv : -2000000 ≤ v ∧ v ≤ 2000000) (hw : ¬ (x = 0 ∧ y = 0)) (hh : ¬ (u = 0 ∧ v = 0)) :
    Calls Try.prog 53 #[Pt x y, Pt u v] w fun e w' => e = .returned (.int .i64 (slN (u * y - v * x) (u * x + v * y))) ∧ Ext w w' := by
  have PA := Lib.hid (fun w => across_any x y u v w hx hy hu hv)
  have PL := Lib.hid (fun w => along_any x y u v w hx hy hu hv)
  have HN : ¬ (u * y - v * x = 0 ∧ u * x + v * y = 0) := fun h => cd_not hw hh h.1 h.2
  obtain ⟨⟨b1, b2⟩, b3, b4⟩ := prod_bd hx hy hu hv
  obtain ⟨C, hC⟩ : ∃ C, C = u * y - v * x := ⟨_, rfl⟩
  obtain ⟨D, hD⟩ : ∃ D, D = u * x + v * y := ⟨_, rfl⟩
  rw [← hC] at PA HN b3 b4 ⊢
  rw [← hD] at PL HN b1 b2 ⊢
  clear hC hD hx hy hu hv hw hh
  have AC := Lib.hid (fun w => absolute_any C w (by omega) (by omega))
  have AD := Lib.hid (fun w => absolute_any D w (by omega) (by omega))
  have key : (ab D < ab C ∧ slN C D = 2) ∨ (¬ ab D < ab C ∧ D < 0 ∧ slN C D = 1) ∨ (¬ ab D < ab C ∧ ¬ D < 0 ∧ slN C D = 3) := by
    by_cases h : ab D < ab C
    · exact .inl ⟨h, sl_reach h⟩
    · by_cases hd : D < 0
      · exact .inr (.inl ⟨h, hd, sl_up h hd⟩)
      · exact .inr (.inr ⟨h, hd, sl_down h hd HN⟩)
  clear HN b1 b2 b3 b4
  generalize slN C D = R at *
  generalize ab C = c at *
  generalize ab D = d at *
  obtain ⟨W0, hW0⟩ : ∃ W0, W0 = (w.alloc (.cells #[.int .i64 x, .int .i64 y] 25)).alloc (.cells #[.int .i64 u, .int .i64 v] 26) := ⟨_, rfl⟩
  have hX : Ext w W0 := hW0 ▸ (((Ext.refl w).alloc _).alloc _)
  have hs0 : W0.heap.size = w.heap.size + 1 + 1 := by rw [hW0]; simp
  have e00 : ∀ w', (Ext W0) w' → w'.cell? ⟨w.heap.size, 0, none⟩ = some (.int .i64 x) := fun w' h => h.cellOf (by rw [hW0]; exact ((Ext.refl _).alloc _).cellOf (boxed 0 rfl (by simp)))
  have e01 : ∀ w', (Ext W0) w' → w'.cell? ⟨w.heap.size, 1, none⟩ = some (.int .i64 y) := fun w' h => h.cellOf (by rw [hW0]; exact ((Ext.refl _).alloc _).cellOf (boxed 1 rfl (by simp)))
  have e10 : ∀ w', (Ext W0) w' → w'.cell? ⟨w.heap.size + 1, 0, none⟩ = some (.int .i64 u) := fun w' h => h.cellOf (by rw [hW0]; exact boxed 0 rfl (by simp))
  have e11 : ∀ w', (Ext W0) w' → w'.cell? ⟨w.heap.size + 1, 1, none⟩ = some (.int .i64 v) := fun w' h => h.cellOf (by rw [hW0]; exact boxed 1 rfl (by simp))
  have hr := Ext.refl W0
  rcases key with ⟨h, rfl⟩ | ⟨h, h2, rfl⟩ | ⟨h, h2, rfl⟩
  all_goals
    go_enter Try.func53, Try.ntmps53
    go_wp2_with fail
    rw [← hW0]
    clear hW0
    refine wp_region_held_drew (S := (fun w' => Ext W0 w')) (by kernel_rfl) (by (try dsimp only); first | go_keep | exact (Ext.refl _).drew | exact Res.new2.drew | exact Res.new4.drew | exact ResB.drew (by assumption) | exact ResC.drew (by assumption) | assumption | exact Ext.drew (by assumption) | exact Res.drew (by assumption)) (fun hHeld => ?_)
    (refine Ord.k 0 7 (v := ?_) ?_ ?_; rotate_left; (intro w h; (try dsimp only at h); go_simp; (try with_reducible rfl)); (try simp only [Act.put, Ord.a, Ord.b, Ord.c]))
    (refine Ord.k 1 8 (v := ?_) ?_ ?_; rotate_left; (intro w h; (try dsimp only at h); go_simp; (try with_reducible rfl)); (try simp only [Act.put, Ord.a, Ord.b, Ord.c]))
    (refine Ord.k 4 11 (v := ?_) ?_ ?_; rotate_left; (intro w h; (try dsimp only at h); go_simp; (try with_reducible rfl)); (try simp only [Act.put, Ord.a, Ord.b, Ord.c]))
    (refine Ord.k 5 12 (v := ?_) ?_ ?_; rotate_left; (intro w h; (try dsimp only at h); go_simp; (try with_reducible rfl)); (try simp only [Act.put, Ord.a, Ord.b, Ord.c]))
    (refine wpAnyH_ready (rs := [2]) (by kernel_rfl) (by simp) ?_; refine AllReadyH.cons rfl (fun K hK => ?_) AllReadyH.nil; go_simp; (first | (go_at_call 88; refine (PA.out _).mono ?_; rintro e w1 ⟨rfl, hy⟩) | (go_at_call 63; refine (PL.out _).mono ?_; rintro e w1 ⟨rfl, hy⟩) | (go_at_call 91; refine (AC.out _).mono ?_; rintro e w1 ⟨rfl, rfl⟩)); go_wp2_with fail; (refine hK.out _ _ (by first | assumption | exact Ext.trans (by assumption) hy | exact Res.ext (by assumption) hy | exact ResB.ext (by assumption) hy | exact ResC.ext (by assumption) hy | (go_split_ands; (repeat' apply And.intro) <;> exact Ext.cellOf hy (by assumption))) (fun hHeld => ?_)); clear hK K; (try simp only [Act.put, Ord.a, Ord.b, Ord.c]))
    (refine wpAnyH_ready (rs := [3]) (by kernel_rfl) (by simp) ?_; refine AllReadyH.cons rfl (fun K hK => ?_) AllReadyH.nil; go_simp; (first | (go_at_call 88; refine (PA.out _).mono ?_; rintro e w1 ⟨rfl, hy⟩) | (go_at_call 63; refine (PL.out _).mono ?_; rintro e w1 ⟨rfl, hy⟩) | (go_at_call 91; refine (AC.out _).mono ?_; rintro e w1 ⟨rfl, rfl⟩)); go_wp2_with fail; (refine hK.out _ _ (by first | assumption | exact Ext.trans (by assumption) hy | exact Res.ext (by assumption) hy | exact ResB.ext (by assumption) hy | exact ResC.ext (by assumption) hy | (go_split_ands; (repeat' apply And.intro) <;> exact Ext.cellOf hy (by assumption))) (fun hHeld => ?_)); clear hK K; (try simp only [Act.put, Ord.a, Ord.b, Ord.c]))
    (refine wpAnyH_ready (rs := [6]) (by kernel_rfl) (by simp) ?_; refine AllReadyH.cons rfl (fun K hK => ?_) AllReadyH.nil; go_simp; (first | (go_at_call 88; refine (PA.out _).mono ?_; rintro e w1 ⟨rfl, hy⟩) | (go_at_call 63; refine (PL.out _).mono ?_; rintro e w1 ⟨rfl, hy⟩) | (go_at_call 91; refine (AC.out _).mono ?_; rintro e w1 ⟨rfl, rfl⟩)); go_wp2_with fail; (refine hK.out _ _ (by first | assumption | exact Ext.trans (by assumption) hy | exact Res.ext (by assumption) hy | exact ResB.ext (by assumption) hy | exact ResC.ext (by assumption) hy | (go_split_ands; (repeat' apply And.intro) <;> exact Ext.cellOf hy (by assumption))) (fun hHeld => ?_)); clear hK K; (try simp only [Act.put, Ord.a, Ord.b, Ord.c]))
    (refine Ord.k 7 5 (v := ?_) ?_ ?_; rotate_left; (intro w h; (try dsimp only at h); go_simp; (try with_reducible rfl)); (try simp only [Act.put, Ord.a, Ord.b, Ord.c]))
    (refine Ord.k 8 6 (v := ?_) ?_ ?_; rotate_left; (intro w h; (try dsimp only at h); go_simp; (try with_reducible rfl)); (try simp only [Act.put, Ord.a, Ord.b, Ord.c]))
    refine wpAnyH_done (by kernel_rfl) ?_ _
    have hH := Lib.hid hHeld
    go_wp2_with (go_at_call 91; refine (AD.out _).mono ?_; rintro e w1 ⟨rfl, rfl⟩)
    go_ret
    exact ⟨rfl, hX.trans hH.out⟩

/-! ### the reference model -/
set_option maxHeartbeats 2000000 in
theorem tackS_any (x y u v : Int) (w : World) (hx : -1000 ≤ x ∧ x ≤ 1000) (hy : -1000 ≤ y ∧ y ≤ 1000) (hu : -2000000 ≤ u ∧ u ≤ 2000000) (hv : -2000000 ≤ v ∧ v ≤ 2000000) :
    Calls Try.prog 52 #[Pt x y, Pt u v] w fun e w' => e = .returned (.int .i64 (tkN (u * y - v * x))) ∧ Ext w w' := by
  have PA := Lib.hid (fun w => crossS_any u v x y w hu hv (by omega) (by omega))
  obtain ⟨C, hC⟩ : ∃ C, C = u * y - v * x := ⟨_, rfl⟩
  rw [← hC] at PA ⊢
  clear hC hx hy hu hv
  have key : (sgn C = -1 ∧ tkN C = 1) ∨ (sgn C = 1 ∧ tkN C = 2) ∨ (sgn C = 0 ∧ tkN C = 0) := by
    unfold sgn tkN
    by_cases h1 : C < 0
    · simp [h1]
    · by_cases h2 : 0 < C
      · simp [h1, h2]
      · simp [h1, h2]
  have PS := Lib.hid (fun w => sign_any C w)
  generalize tkN C = R at *
  generalize sgn C = S at *
  obtain ⟨W0, hW0⟩ : ∃ W0, W0 = (w.alloc (.cells #[.int .i64 x, .int .i64 y] 25)).alloc (.cells #[.int .i64 u, .int .i64 v] 26) := ⟨_, rfl⟩
  have hX : Ext w W0 := hW0 ▸ (((Ext.refl w).alloc _).alloc _)
  have hs0 : W0.heap.size = w.heap.size + 1 + 1 := by rw [hW0]; simp
  have e00 : ∀ w', (Ext W0) w' → w'.cell? ⟨w.heap.size, 0, none⟩ = some (.int .i64 x) := fun w' h => h.cellOf (by rw [hW0]; exact ((Ext.refl _).alloc _).cellOf (boxed 0 rfl (by simp)))
  have e01 : ∀ w', (Ext W0) w' → w'.cell? ⟨w.heap.size, 1, none⟩ = some (.int .i64 y) := fun w' h => h.cellOf (by rw [hW0]; exact ((Ext.refl _).alloc _).cellOf (boxed 1 rfl (by simp)))
  have e10 : ∀ w', (Ext W0) w' → w'.cell? ⟨w.heap.size + 1, 0, none⟩ = some (.int .i64 u) := fun w' h => h.cellOf (by rw [hW0]; exact boxed 0 rfl (by simp))
  have e11 : ∀ w', (Ext W0) w' → w'.cell? ⟨w.heap.size + 1, 1, none⟩ = some (.int .i64 v) := fun w' h => h.cellOf (by rw [hW0]; exact boxed 1 rfl (by simp))
  have hr := Ext.refl W0
  rcases key with ⟨rfl, rfl⟩ | ⟨rfl, rfl⟩ | ⟨rfl, rfl⟩
  all_goals
    go_enter Try.func52, Try.ntmps52
    go_wp2_with fail
    rw [← hW0]
    clear hW0
    refine wp_region_held_drew (S := (fun w' => Ext W0 w')) (by kernel_rfl) (by (try dsimp only); first | go_keep | exact (Ext.refl _).drew | exact Res.new2.drew | exact Res.new4.drew | exact ResB.drew (by assumption) | exact ResC.drew (by assumption) | assumption | exact Ext.drew (by assumption) | exact Res.drew (by assumption)) (fun hHeld => ?_)
    (refine Ord.k 0 5 (v := ?_) ?_ ?_; rotate_left; (intro w h; (try dsimp only at h); go_simp; (try with_reducible rfl)); (try simp only [Act.put, Ord.a, Ord.b, Ord.c]))
    (refine Ord.k 1 6 (v := ?_) ?_ ?_; rotate_left; (intro w h; (try dsimp only at h); go_simp; (try with_reducible rfl)); (try simp only [Act.put, Ord.a, Ord.b, Ord.c]))
    (refine wpAnyH_ready (rs := [2]) (by kernel_rfl) (by simp) ?_; refine AllReadyH.cons rfl (fun K hK => ?_) AllReadyH.nil; go_simp; (first | (go_at_call 67; refine (vectorS_any _ _ _).mono ?_; rintro e w1 ⟨rfl, hy⟩) | (go_at_call 90; refine (PA.out _).mono ?_; rintro e w1 ⟨rfl, hy⟩) | (go_at_call 89; refine (PS.out _).mono ?_; rintro e w1 ⟨rfl, rfl⟩)); go_wp2_with fail; (refine hK.out _ _ (by first | assumption | exact Ext.trans (by assumption) hy | exact Res.ext (by assumption) hy | exact ResB.ext (by assumption) hy | exact ResC.ext (by assumption) hy | (go_split_ands; (repeat' apply And.intro) <;> exact Ext.cellOf hy (by assumption))) (fun hHeld => ?_)); clear hK K; (try simp only [Act.put, Ord.a, Ord.b, Ord.c]))
    (refine wpAnyH_ready (rs := [3]) (by kernel_rfl) (by simp) ?_; refine AllReadyH.cons rfl (fun K hK => ?_) AllReadyH.nil; go_simp; (first | (go_at_call 67; refine (vectorS_any _ _ _).mono ?_; rintro e w1 ⟨rfl, hy⟩) | (go_at_call 90; refine (PA.out _).mono ?_; rintro e w1 ⟨rfl, hy⟩) | (go_at_call 89; refine (PS.out _).mono ?_; rintro e w1 ⟨rfl, rfl⟩)); go_wp2_with fail; (refine hK.out _ _ (by first | assumption | exact Ext.trans (by assumption) hy | exact Res.ext (by assumption) hy | exact ResB.ext (by assumption) hy | exact ResC.ext (by assumption) hy | (go_split_ands; (repeat' apply And.intro) <;> exact Ext.cellOf hy (by assumption))) (fun hHeld => ?_)); clear hK K; (try simp only [Act.put, Ord.a, Ord.b, Ord.c]))
    (refine wpAnyH_ready (rs := [4]) (by kernel_rfl) (by simp) ?_; refine AllReadyH.cons rfl (fun K hK => ?_) AllReadyH.nil; go_simp; (first | (go_at_call 67; refine (vectorS_any _ _ _).mono ?_; rintro e w1 ⟨rfl, hy⟩) | (go_at_call 90; refine (PA.out _).mono ?_; rintro e w1 ⟨rfl, hy⟩) | (go_at_call 89; refine (PS.out _).mono ?_; rintro e w1 ⟨rfl, rfl⟩)); go_wp2_with fail; (refine hK.out _ _ (by first | assumption | exact Ext.trans (by assumption) hy | exact Res.ext (by assumption) hy | exact ResB.ext (by assumption) hy | exact ResC.ext (by assumption) hy | (go_split_ands; (repeat' apply And.intro) <;> exact Ext.cellOf hy (by assumption))) (fun hHeld => ?_)); clear hK K; (try simp only [Act.put, Ord.a, Ord.b, Ord.c]))
    refine wpAnyH_done (by kernel_rfl) ?_ _
    have hH := Lib.hid hHeld
    go_wp2
    go_ret
    exact ⟨rfl, hX.trans hH.out⟩

set_option maxHeartbeats 2000000 in
theorem sailS_any (x y u v : Int) (w : World) (hx : -1000 ≤ x ∧ x ≤ 1000) (hy : -1000 ≤ y ∧ y ≤ 1000) (hu : -2000000 ≤ u ∧ u ≤ 2000000) (hv : -2000000 ≤ v ∧ v ≤ 2000000) :
    Calls Try.prog 76 #[Pt x y, Pt u v] w fun e w' => e = .returned (.int .i64 (slN (u * y - v * x) (u * x + v * y))) ∧ Ext w w' := by
  have PA := Lib.hid (fun w => crossS_any u v x y w hu hv (by omega) (by omega))
  have PD := Lib.hid (fun w => dot_any u v x y w hu hv (by omega) (by omega))
  obtain ⟨⟨b1, b2⟩, b3, b4⟩ := prod_bd hx hy hu hv
  obtain ⟨C, hC⟩ : ∃ C, C = u * y - v * x := ⟨_, rfl⟩
  obtain ⟨D, hD⟩ : ∃ D, D = u * x + v * y := ⟨_, rfl⟩
  rw [← hC] at PA b3 b4 ⊢
  rw [← hD] at PD b1 b2 ⊢
  clear hC hD hx hy hu hv
  have AC := Lib.hid (fun w => absS_any C w (by omega) (by omega))
  have TN : IntKind.i64.wrap (-D) = -D := IntWalk.i64_in _ (by omega)
  have key : (D < 0 ∧ ab C ≤ -D ∧ slN C D = 1) ∨ (D < 0 ∧ ¬ ab C ≤ -D ∧ ¬ 0 < D ∧ slN C D = 2) ∨ (¬ D < 0 ∧ 0 < D ∧ ab C ≤ D ∧ slN C D = 3) ∨ (¬ D < 0 ∧ 0 < D ∧ ¬ ab C ≤ D ∧ slN C D = 2) ∨ (¬ D < 0 ∧ ¬ 0 < D ∧ slN C D = 2) := by
    unfold slN
    by_cases h1 : D < 0
    · by_cases h2 : ab C ≤ -D
      · exact .inl ⟨h1, h2, if_pos ⟨h1, h2⟩⟩
      · exact .inr (.inl ⟨h1, h2, by omega, by rw [if_neg (fun h => h2 h.2), if_neg (fun h => by omega)]⟩)
    · by_cases h3 : 0 < D
      · by_cases h2 : ab C ≤ D
        · exact .inr (.inr (.inl ⟨h1, h3, h2, by rw [if_neg (fun h => h1 h.1), if_pos ⟨h3, h2⟩]⟩))
        · exact .inr (.inr (.inr (.inl ⟨h1, h3, h2, by rw [if_neg (fun h => h1 h.1), if_neg (fun h => h2 h.2)]⟩)))
      · exact .inr (.inr (.inr (.inr ⟨h1, h3, by rw [if_neg (fun h => h1 h.1), if_neg (fun h => h3 h.1)]⟩)))
  clear b1 b2 b3 b4
  generalize slN C D = R at *
  generalize ab C = c at *
  obtain ⟨W0, hW0⟩ : ∃ W0, W0 = (w.alloc (.cells #[.int .i64 x, .int .i64 y] 25)).alloc (.cells #[.int .i64 u, .int .i64 v] 26) := ⟨_, rfl⟩
  have hX : Ext w W0 := hW0 ▸ (((Ext.refl w).alloc _).alloc _)
  have hs0 : W0.heap.size = w.heap.size + 1 + 1 := by rw [hW0]; simp
  have e00 : ∀ w', (Ext W0) w' → w'.cell? ⟨w.heap.size, 0, none⟩ = some (.int .i64 x) := fun w' h => h.cellOf (by rw [hW0]; exact ((Ext.refl _).alloc _).cellOf (boxed 0 rfl (by simp)))
  have e01 : ∀ w', (Ext W0) w' → w'.cell? ⟨w.heap.size, 1, none⟩ = some (.int .i64 y) := fun w' h => h.cellOf (by rw [hW0]; exact ((Ext.refl _).alloc _).cellOf (boxed 1 rfl (by simp)))
  have e10 : ∀ w', (Ext W0) w' → w'.cell? ⟨w.heap.size + 1, 0, none⟩ = some (.int .i64 u) := fun w' h => h.cellOf (by rw [hW0]; exact boxed 0 rfl (by simp))
  have e11 : ∀ w', (Ext W0) w' → w'.cell? ⟨w.heap.size + 1, 1, none⟩ = some (.int .i64 v) := fun w' h => h.cellOf (by rw [hW0]; exact boxed 1 rfl (by simp))
  have hr := Ext.refl W0
  rcases key with ⟨h1, h2, rfl⟩ | ⟨h1, h2, h3, rfl⟩ | ⟨h1, h2, h3, rfl⟩ | ⟨h1, h2, h3, rfl⟩ | ⟨h1, h2, rfl⟩
  all_goals
    go_enter Try.func76, Try.ntmps76
    go_wp2_with fail
    rw [← hW0]
    clear hW0
    refine wp_region_held_drew (S := (fun w' => Ext W0 w')) (by kernel_rfl) (by (try dsimp only); first | go_keep | exact (Ext.refl _).drew | exact Res.new2.drew | exact Res.new4.drew | exact ResB.drew (by assumption) | exact ResC.drew (by assumption) | assumption | exact Ext.drew (by assumption) | exact Res.drew (by assumption)) (fun hHeld => ?_)
    (refine Ord.k 0 7 (v := ?_) ?_ ?_; rotate_left; (intro w h; (try dsimp only at h); go_simp; (try with_reducible rfl)); (try simp only [Act.put, Ord.a, Ord.b, Ord.c]))
    (refine Ord.k 1 8 (v := ?_) ?_ ?_; rotate_left; (intro w h; (try dsimp only at h); go_simp; (try with_reducible rfl)); (try simp only [Act.put, Ord.a, Ord.b, Ord.c]))
    (refine Ord.k 5 12 (v := ?_) ?_ ?_; rotate_left; (intro w h; (try dsimp only at h); go_simp; (try with_reducible rfl)); (try simp only [Act.put, Ord.a, Ord.b, Ord.c]))
    (refine Ord.k 6 13 (v := ?_) ?_ ?_; rotate_left; (intro w h; (try dsimp only at h); go_simp; (try with_reducible rfl)); (try simp only [Act.put, Ord.a, Ord.b, Ord.c]))
    (refine wpAnyH_ready (rs := [2]) (by kernel_rfl) (by simp) ?_; refine AllReadyH.cons rfl (fun K hK => ?_) AllReadyH.nil; go_simp; (first | (go_at_call 67; refine (vectorS_any _ _ _).mono ?_; rintro e w1 ⟨rfl, hy⟩) | (go_at_call 90; refine (PA.out _).mono ?_; rintro e w1 ⟨rfl, hy⟩) | (go_at_call 69; refine (PD.out _).mono ?_; rintro e w1 ⟨rfl, hy⟩) | (go_at_call 110; refine (AC.out _).mono ?_; rintro e w1 ⟨rfl, rfl⟩)); go_wp2_with fail; (refine hK.out _ _ (by first | assumption | exact Ext.trans (by assumption) hy | exact Res.ext (by assumption) hy | exact ResB.ext (by assumption) hy | exact ResC.ext (by assumption) hy | (go_split_ands; (repeat' apply And.intro) <;> exact Ext.cellOf hy (by assumption))) (fun hHeld => ?_)); clear hK K; (try simp only [Act.put, Ord.a, Ord.b, Ord.c]))
    (refine wpAnyH_ready (rs := [3]) (by kernel_rfl) (by simp) ?_; refine AllReadyH.cons rfl (fun K hK => ?_) AllReadyH.nil; go_simp; (first | (go_at_call 67; refine (vectorS_any _ _ _).mono ?_; rintro e w1 ⟨rfl, hy⟩) | (go_at_call 90; refine (PA.out _).mono ?_; rintro e w1 ⟨rfl, hy⟩) | (go_at_call 69; refine (PD.out _).mono ?_; rintro e w1 ⟨rfl, hy⟩) | (go_at_call 110; refine (AC.out _).mono ?_; rintro e w1 ⟨rfl, rfl⟩)); go_wp2_with fail; (refine hK.out _ _ (by first | assumption | exact Ext.trans (by assumption) hy | exact Res.ext (by assumption) hy | exact ResB.ext (by assumption) hy | exact ResC.ext (by assumption) hy | (go_split_ands; (repeat' apply And.intro) <;> exact Ext.cellOf hy (by assumption))) (fun hHeld => ?_)); clear hK K; (try simp only [Act.put, Ord.a, Ord.b, Ord.c]))
    (refine wpAnyH_ready (rs := [4]) (by kernel_rfl) (by simp) ?_; refine AllReadyH.cons rfl (fun K hK => ?_) AllReadyH.nil; go_simp; (first | (go_at_call 67; refine (vectorS_any _ _ _).mono ?_; rintro e w1 ⟨rfl, hy⟩) | (go_at_call 90; refine (PA.out _).mono ?_; rintro e w1 ⟨rfl, hy⟩) | (go_at_call 69; refine (PD.out _).mono ?_; rintro e w1 ⟨rfl, hy⟩) | (go_at_call 110; refine (AC.out _).mono ?_; rintro e w1 ⟨rfl, rfl⟩)); go_wp2_with fail; (refine hK.out _ _ (by first | assumption | exact Ext.trans (by assumption) hy | exact Res.ext (by assumption) hy | exact ResB.ext (by assumption) hy | exact ResC.ext (by assumption) hy | (go_split_ands; (repeat' apply And.intro) <;> exact Ext.cellOf hy (by assumption))) (fun hHeld => ?_)); clear hK K; (try simp only [Act.put, Ord.a, Ord.b, Ord.c]))
    (refine wpAnyH_ready (rs := [7]) (by kernel_rfl) (by simp) ?_; refine AllReadyH.cons rfl (fun K hK => ?_) AllReadyH.nil; go_simp; (first | (go_at_call 67; refine (vectorS_any _ _ _).mono ?_; rintro e w1 ⟨rfl, hy⟩) | (go_at_call 90; refine (PA.out _).mono ?_; rintro e w1 ⟨rfl, hy⟩) | (go_at_call 69; refine (PD.out _).mono ?_; rintro e w1 ⟨rfl, hy⟩) | (go_at_call 110; refine (AC.out _).mono ?_; rintro e w1 ⟨rfl, rfl⟩)); go_wp2_with fail; (refine hK.out _ _ (by first | assumption | exact Ext.trans (by assumption) hy | exact Res.ext (by assumption) hy | exact ResB.ext (by assumption) hy | exact ResC.ext (by assumption) hy | (go_split_ands; (repeat' apply And.intro) <;> exact Ext.cellOf hy (by assumption))) (fun hHeld => ?_)); clear hK K; (try simp only [Act.put, Ord.a, Ord.b, Ord.c]))
    (refine wpAnyH_ready (rs := [8]) (by kernel_rfl) (by simp) ?_; refine AllReadyH.cons rfl (fun K hK => ?_) AllReadyH.nil; go_simp; (first | (go_at_call 67; refine (vectorS_any _ _ _).mono ?_; rintro e w1 ⟨rfl, hy⟩) | (go_at_call 90; refine (PA.out _).mono ?_; rintro e w1 ⟨rfl, hy⟩) | (go_at_call 69; refine (PD.out _).mono ?_; rintro e w1 ⟨rfl, hy⟩) | (go_at_call 110; refine (AC.out _).mono ?_; rintro e w1 ⟨rfl, rfl⟩)); go_wp2_with fail; (refine hK.out _ _ (by first | assumption | exact Ext.trans (by assumption) hy | exact Res.ext (by assumption) hy | exact ResB.ext (by assumption) hy | exact ResC.ext (by assumption) hy | (go_split_ands; (repeat' apply And.intro) <;> exact Ext.cellOf hy (by assumption))) (fun hHeld => ?_)); clear hK K; (try simp only [Act.put, Ord.a, Ord.b, Ord.c]))
    (refine Ord.k 9 5 (v := ?_) ?_ ?_; rotate_left; (intro w h; (try dsimp only at h); go_simp; (try with_reducible rfl)); (try simp only [Act.put, Ord.a, Ord.b, Ord.c]))
    (refine Ord.k 10 6 (v := ?_) ?_ ?_; rotate_left; (intro w h; (try dsimp only at h); go_simp; (try with_reducible rfl)); (try simp only [Act.put, Ord.a, Ord.b, Ord.c]))
    refine wpAnyH_done (by kernel_rfl) ?_ _
    have hH := Lib.hid hHeld
    go_wp2
    go_ret
    exact ⟨rfl, hX.trans hH.out⟩

/-! ### TackOf, SailOf -/
def toQ (x y u v : Int) : Int := if wdB x y = true ∧ hdB u v = true then tkN (u * y - v * x) else 0
def soQ (x y u v : Int) : Int := if wdB x y = true ∧ hdB u v = true then slN (u * y - v * x) (u * x + v * y) else 0
def toC (x y u v : Int) : Int := if wdB x y = true ∧ hdB u v = true then 0 else 1
set_option maxHeartbeats 2000000 in
theorem tackOf_impl (x y u v : Int) (w : World) : Calls Try.prog 15 #[Pt x y, Pt u v] w fun e w' => e = .returned (.tuple #[.int .i64 (toQ x y u v), .int .i64 (toC x y u v)]) ∧ Ext w w' := by
  cases h1 : wdB x y
  · have HQ := Lib.hid (show toQ x y u v = 0 by unfold toQ; rw [if_neg (by simp [h1])])
    have HC := Lib.hid (show toC x y u v = 1 by unfold toC; rw [if_neg (by simp [h1])])
    go_enter Try.func15, Try.ntmps15
    go_wp2_with (first | (go_at_call 48; refine (windValid_any _ _ _).mono ?_; rintro e w1 ⟨rfl, hx⟩; obtain ⟨hc, hf⟩ := hx.facts; have hz := hx.size; (try simp at hz); (try (have hz0 : w.heap.size < w1.heap.size := by omega)); (try (have hz1 : w.heap.size + 1 < w1.heap.size := by omega)); (try (have hz2 : w.heap.size + 1 + 1 < w1.heap.size := by omega)); (try (have hz3 : w.heap.size + 1 + 1 + 1 < w1.heap.size := by omega))) | (go_at_call 49; refine (isHeading_any _ _ _).mono ?_; rintro e w1 ⟨rfl, hx⟩; obtain ⟨hc, hf⟩ := hx.facts; have hz := hx.size; (try simp at hz); (try (have hz0 : w.heap.size < w1.heap.size := by omega)); (try (have hz1 : w.heap.size + 1 < w1.heap.size := by omega)); (try (have hz2 : w.heap.size + 1 + 1 < w1.heap.size := by omega)); (try (have hz3 : w.heap.size + 1 + 1 + 1 < w1.heap.size := by omega))))
    go_ret2
    exact ⟨ret_int2 HQ.out HC.out, (by repeat (first | exact Ext.refl _ | assumption | apply Ext.alloc | apply Ext.drew | (refine Ext.trans ?_ (by assumption)) | (refine Ext.setNew ?_ (by simp <;> omega) _)))⟩
  cases h2 : hdB u v
  · have HQ := Lib.hid (show toQ x y u v = 0 by unfold toQ; rw [if_neg (by simp [h2])])
    have HC := Lib.hid (show toC x y u v = 1 by unfold toC; rw [if_neg (by simp [h2])])
    go_enter Try.func15, Try.ntmps15
    go_wp2_with (first | (go_at_call 48; refine (windValid_any _ _ _).mono ?_; rintro e w1 ⟨rfl, hx⟩; obtain ⟨hc, hf⟩ := hx.facts; have hz := hx.size; (try simp at hz); (try (have hz0 : w.heap.size < w1.heap.size := by omega)); (try (have hz1 : w.heap.size + 1 < w1.heap.size := by omega)); (try (have hz2 : w.heap.size + 1 + 1 < w1.heap.size := by omega)); (try (have hz3 : w.heap.size + 1 + 1 + 1 < w1.heap.size := by omega))) | (go_at_call 49; refine (isHeading_any _ _ _).mono ?_; rintro e w1 ⟨rfl, hx⟩; obtain ⟨hc, hf⟩ := hx.facts; have hz := hx.size; (try simp at hz); (try (have hz0 : w.heap.size < w1.heap.size := by omega)); (try (have hz1 : w.heap.size + 1 < w1.heap.size := by omega)); (try (have hz2 : w.heap.size + 1 + 1 < w1.heap.size := by omega)); (try (have hz3 : w.heap.size + 1 + 1 + 1 < w1.heap.size := by omega))))
    go_ret2
    exact ⟨ret_int2 HQ.out HC.out, (by repeat (first | exact Ext.refl _ | assumption | apply Ext.alloc | apply Ext.drew | (refine Ext.trans ?_ (by assumption)) | (refine Ext.setNew ?_ (by simp <;> omega) _)))⟩
  have HQ := Lib.hid (show toQ x y u v = tkN (u * y - v * x) from if_pos ⟨h1, h2⟩)
  have HC := Lib.hid (show toC x y u v = 0 from if_pos ⟨h1, h2⟩)
  obtain ⟨a1, a2, a3⟩ := wdB_yes h1
  obtain ⟨b1, b2, b3⟩ := hdB_yes h2
  have A := Lib.hid (And.intro a1 (And.intro a2 (And.intro b1 (And.intro b2 (And.intro a3 b3)))))
  clear a1 a2 a3 b1 b2 b3
  obtain ⟨W0, hW0⟩ : ∃ W0, W0 = (w.alloc (.cells #[.int .i64 x, .int .i64 y] 25)).alloc (.cells #[.int .i64 u, .int .i64 v] 26) := ⟨_, rfl⟩
  have hX : Ext w W0 := hW0 ▸ (((Ext.refl w).alloc _).alloc _)
  have hs0 : W0.heap.size = w.heap.size + 1 + 1 := by rw [hW0]; simp
  have e00 : ∀ w', (Ext W0) w' → w'.cell? ⟨w.heap.size, 0, none⟩ = some (.int .i64 x) := fun w' h => h.cellOf (by rw [hW0]; exact ((Ext.refl _).alloc _).cellOf (boxed 0 rfl (by simp)))
  have e01 : ∀ w', (Ext W0) w' → w'.cell? ⟨w.heap.size, 1, none⟩ = some (.int .i64 y) := fun w' h => h.cellOf (by rw [hW0]; exact ((Ext.refl _).alloc _).cellOf (boxed 1 rfl (by simp)))
  have e10 : ∀ w', (Ext W0) w' → w'.cell? ⟨w.heap.size + 1, 0, none⟩ = some (.int .i64 u) := fun w' h => h.cellOf (by rw [hW0]; exact boxed 0 rfl (by simp))
  have e11 : ∀ w', (Ext W0) w' → w'.cell? ⟨w.heap.size + 1, 1, none⟩ = some (.int .i64 v) := fun w' h => h.cellOf (by rw [hW0]; exact boxed 1 rfl (by simp))
  have q00 := e00 W0 (Ext.refl W0)
  have q01 := e01 W0 (Ext.refl W0)
  go_enter Try.func15, Try.ntmps15
  go_wp2_with fail
  refine (windValid_any _ _ _).mono ?_
  rintro e w1 ⟨rfl, hz⟩
  rw [← hW0] at hz
  clear hW0 q00 q01
  replace hz : Ext W0 w1 := hz
  have q10 := e10 w1 hz
  have q11 := e11 w1 hz
  go_wp2_with fail
  refine (isHeading_any _ _ _).mono ?_
  rintro e w2 ⟨rfl, hy⟩
  replace hz := hz.trans hy
  clear q10 q11 hy
  replace e00 : ∀ w', Ext w2 w' → w'.cell? ⟨w.heap.size, 0, none⟩ = some (.int .i64 x) := fun w' h => e00 w' (hz.trans h)
  replace e01 : ∀ w', Ext w2 w' → w'.cell? ⟨w.heap.size, 1, none⟩ = some (.int .i64 y) := fun w' h => e01 w' (hz.trans h)
  replace e10 : ∀ w', Ext w2 w' → w'.cell? ⟨w.heap.size + 1, 0, none⟩ = some (.int .i64 u) := fun w' h => e10 w' (hz.trans h)
  replace e11 : ∀ w', Ext w2 w' → w'.cell? ⟨w.heap.size + 1, 1, none⟩ = some (.int .i64 v) := fun w' h => e11 w' (hz.trans h)
  have hr := Ext.refl w2
  go_wp2_with fail
  refine wp_region_held_drew (S := (fun w' => Ext w2 w')) (by kernel_rfl) (by (try dsimp only); first | go_keep | exact (Ext.refl _).drew | exact Res.new2.drew | exact Res.new4.drew | exact ResB.drew (by assumption) | exact ResC.drew (by assumption) | assumption | exact Ext.drew (by assumption) | exact Res.drew (by assumption)) (fun hHeld => ?_)
  (refine Ord.k 0 14 (v := ?_) ?_ ?_; rotate_left; (intro w h; (try dsimp only at h); go_simp; (try with_reducible rfl)); (try simp only [Act.put, Ord.a, Ord.b, Ord.c]))
  (refine Ord.k 2 16 (v := ?_) ?_ ?_; rotate_left; (intro w h; (try dsimp only at h); go_simp; (try with_reducible rfl)); (try simp only [Act.put, Ord.a, Ord.b, Ord.c]))
  (refine wpAnyH_ready (rs := [1]) (by kernel_rfl) (by simp) ?_; refine AllReadyH.cons rfl (fun K hK => ?_) AllReadyH.nil; go_simp; (first | (go_at_call 50; refine (teller_any _ _ _).mono ?_; rintro e w3 ⟨k, rfl, hk, hb, hy⟩) | (go_at_call 87; refine (tell_any _ _ _ _ _ _ hb A.out.1 A.out.2.1 A.out.2.2.1 A.out.2.2.2.1).mono ?_; rintro e w4 ⟨rfl, hy⟩)); go_wp2_with fail; (refine hK.out _ _ (by first | assumption | exact Ext.trans (by assumption) hy | exact Res.ext (by assumption) hy | exact ResB.ext (by assumption) hy | exact ResC.ext (by assumption) hy | (go_split_ands; (repeat' apply And.intro) <;> exact Ext.cellOf hy (by assumption))) (fun hHeld => ?_)); clear hK K; (try simp only [Act.put, Ord.a, Ord.b, Ord.c]))
  (refine wpAnyH_ready (rs := [3]) (by kernel_rfl) (by simp) ?_; refine AllReadyH.cons rfl (fun K hK => ?_) AllReadyH.nil; go_simp; (first | (go_at_call 50; refine (teller_any _ _ _).mono ?_; rintro e w3 ⟨k, rfl, hk, hb, hy⟩) | (go_at_call 87; refine (tell_any _ _ _ _ _ _ hb A.out.1 A.out.2.1 A.out.2.2.1 A.out.2.2.2.1).mono ?_; rintro e w4 ⟨rfl, hy⟩)); go_wp2_with fail; (refine hK.out _ _ (by first | assumption | exact Ext.trans (by assumption) hy | exact Res.ext (by assumption) hy | exact ResB.ext (by assumption) hy | exact ResC.ext (by assumption) hy | (go_split_ands; (repeat' apply And.intro) <;> exact Ext.cellOf hy (by assumption))) (fun hHeld => ?_)); clear hK K; (try simp only [Act.put, Ord.a, Ord.b, Ord.c]))
  (refine Ord.k 4 4 (v := ?_) ?_ ?_; rotate_left; (intro w h; (try dsimp only at h); go_simp; (try with_reducible rfl)); (try simp only [Act.put, Ord.a, Ord.b, Ord.c]))
  (refine Ord.k 5 5 (v := ?_) ?_ ?_; rotate_left; (intro w h; (try dsimp only at h); go_simp; (try with_reducible rfl)); (try simp only [Act.put, Ord.a, Ord.b, Ord.c]))
  refine wpAnyH_done (by kernel_rfl) ?_ _
  go_wp2
  go_ret2
  exact ⟨ret_int2 HQ.out HC.out, hX.trans (hz.trans (by assumption))⟩

theorem tackOf_spec (x y u v : Int) (w : World) : Calls Try.prog 16 #[Pt x y, Pt u v] w fun e w' => e = .returned (.tuple #[.int .i64 (toQ x y u v), .int .i64 (toC x y u v)]) ∧ Ext w w' := by
  cases h1 : wdB x y
  · have HQ := Lib.hid (show toQ x y u v = 0 by unfold toQ; rw [if_neg (by simp [h1])])
    have HC := Lib.hid (show toC x y u v = 1 by unfold toC; rw [if_neg (by simp [h1])])
    go_enter Try.func16, Try.ntmps16
    go_wp2_with (first | (go_at_call 29; refine (isWind_spec _ _ _).mono ?_; rintro e w1 ⟨rfl, hx⟩; obtain ⟨hc, hf⟩ := hx.facts; have hz := hx.size; (try simp at hz); (try (have hz0 : w.heap.size < w1.heap.size := by omega)); (try (have hz1 : w.heap.size + 1 < w1.heap.size := by omega)); (try (have hz2 : w.heap.size + 1 + 1 < w1.heap.size := by omega)); (try (have hz3 : w.heap.size + 1 + 1 + 1 < w1.heap.size := by omega))) | (go_at_call 51; refine (headingS_any _ _ _).mono ?_; rintro e w1 ⟨rfl, hx⟩; obtain ⟨hc, hf⟩ := hx.facts; have hz := hx.size; (try simp at hz); (try (have hz0 : w.heap.size < w1.heap.size := by omega)); (try (have hz1 : w.heap.size + 1 < w1.heap.size := by omega)); (try (have hz2 : w.heap.size + 1 + 1 < w1.heap.size := by omega)); (try (have hz3 : w.heap.size + 1 + 1 + 1 < w1.heap.size := by omega))))
    go_ret2
    exact ⟨ret_int2 HQ.out HC.out, (by repeat (first | exact Ext.refl _ | assumption | apply Ext.alloc | apply Ext.drew | (refine Ext.trans ?_ (by assumption)) | (refine Ext.setNew ?_ (by simp <;> omega) _)))⟩
  cases h2 : hdB u v
  · have HQ := Lib.hid (show toQ x y u v = 0 by unfold toQ; rw [if_neg (by simp [h2])])
    have HC := Lib.hid (show toC x y u v = 1 by unfold toC; rw [if_neg (by simp [h2])])
    go_enter Try.func16, Try.ntmps16
    go_wp2_with (first | (go_at_call 29; refine (isWind_spec _ _ _).mono ?_; rintro e w1 ⟨rfl, hx⟩; obtain ⟨hc, hf⟩ := hx.facts; have hz := hx.size; (try simp at hz); (try (have hz0 : w.heap.size < w1.heap.size := by omega)); (try (have hz1 : w.heap.size + 1 < w1.heap.size := by omega)); (try (have hz2 : w.heap.size + 1 + 1 < w1.heap.size := by omega)); (try (have hz3 : w.heap.size + 1 + 1 + 1 < w1.heap.size := by omega))) | (go_at_call 51; refine (headingS_any _ _ _).mono ?_; rintro e w1 ⟨rfl, hx⟩; obtain ⟨hc, hf⟩ := hx.facts; have hz := hx.size; (try simp at hz); (try (have hz0 : w.heap.size < w1.heap.size := by omega)); (try (have hz1 : w.heap.size + 1 < w1.heap.size := by omega)); (try (have hz2 : w.heap.size + 1 + 1 < w1.heap.size := by omega)); (try (have hz3 : w.heap.size + 1 + 1 + 1 < w1.heap.size := by omega))))
    go_ret2
    exact ⟨ret_int2 HQ.out HC.out, (by repeat (first | exact Ext.refl _ | assumption | apply Ext.alloc | apply Ext.drew | (refine Ext.trans ?_ (by assumption)) | (refine Ext.setNew ?_ (by simp <;> omega) _)))⟩
  have HQ := Lib.hid (show toQ x y u v = tkN (u * y - v * x) from if_pos ⟨h1, h2⟩)
  have HC := Lib.hid (show toC x y u v = 0 from if_pos ⟨h1, h2⟩)
  obtain ⟨a1, a2, a3⟩ := wdB_yes h1
  obtain ⟨b1, b2, b3⟩ := hdB_yes h2
  have A := Lib.hid (And.intro a1 (And.intro a2 (And.intro b1 (And.intro b2 (And.intro a3 b3)))))
  clear a1 a2 a3 b1 b2 b3
  obtain ⟨W0, hW0⟩ : ∃ W0, W0 = (w.alloc (.cells #[.int .i64 x, .int .i64 y] 25)).alloc (.cells #[.int .i64 u, .int .i64 v] 26) := ⟨_, rfl⟩
  have hX : Ext w W0 := hW0 ▸ (((Ext.refl w).alloc _).alloc _)
  have hs0 : W0.heap.size = w.heap.size + 1 + 1 := by rw [hW0]; simp
  have e00 : ∀ w', (Ext W0) w' → w'.cell? ⟨w.heap.size, 0, none⟩ = some (.int .i64 x) := fun w' h => h.cellOf (by rw [hW0]; exact ((Ext.refl _).alloc _).cellOf (boxed 0 rfl (by simp)))
  have e01 : ∀ w', (Ext W0) w' → w'.cell? ⟨w.heap.size, 1, none⟩ = some (.int .i64 y) := fun w' h => h.cellOf (by rw [hW0]; exact ((Ext.refl _).alloc _).cellOf (boxed 1 rfl (by simp)))
  have e10 : ∀ w', (Ext W0) w' → w'.cell? ⟨w.heap.size + 1, 0, none⟩ = some (.int .i64 u) := fun w' h => h.cellOf (by rw [hW0]; exact boxed 0 rfl (by simp))
  have e11 : ∀ w', (Ext W0) w' → w'.cell? ⟨w.heap.size + 1, 1, none⟩ = some (.int .i64 v) := fun w' h => h.cellOf (by rw [hW0]; exact boxed 1 rfl (by simp))
  have q00 := e00 W0 (Ext.refl W0)
  have q01 := e01 W0 (Ext.refl W0)
  go_enter Try.func16, Try.ntmps16
  go_wp2_with fail
  refine (isWind_spec _ _ _).mono ?_
  rintro e w1 ⟨rfl, hz⟩
  rw [← hW0] at hz
  clear hW0 q00 q01
  replace hz : Ext W0 w1 := hz
  have q10 := e10 w1 hz
  have q11 := e11 w1 hz
  go_wp2_with fail
  refine (headingS_any _ _ _).mono ?_
  rintro e w2 ⟨rfl, hy⟩
  replace hz := hz.trans hy
  clear q10 q11 hy
  have q00 := e00 w2 hz
  have q01 := e01 w2 hz
  have q10 := e10 w2 hz
  have q11 := e11 w2 hz
  go_wp2_with fail
  refine (tackS_any _ _ _ _ _ A.out.1 A.out.2.1 A.out.2.2.1 A.out.2.2.2.1).mono ?_
  rintro e w3 ⟨rfl, hy⟩
  go_wp2
  go_ret2
  exact ⟨ret_int2 HQ.out HC.out, hX.trans (hz.trans hy)⟩

theorem sailOf_impl (x y u v : Int) (w : World) : Calls Try.prog 17 #[Pt x y, Pt u v] w fun e w' => e = .returned (.tuple #[.int .i64 (soQ x y u v), .int .i64 (toC x y u v)]) ∧ Ext w w' := by
  cases h1 : wdB x y
  · have HQ := Lib.hid (show soQ x y u v = 0 by unfold soQ; rw [if_neg (by simp [h1])])
    have HC := Lib.hid (show toC x y u v = 1 by unfold toC; rw [if_neg (by simp [h1])])
    go_enter Try.func17, Try.ntmps17
    go_wp2_with (first | (go_at_call 48; refine (windValid_any _ _ _).mono ?_; rintro e w1 ⟨rfl, hx⟩; obtain ⟨hc, hf⟩ := hx.facts; have hz := hx.size; (try simp at hz); (try (have hz0 : w.heap.size < w1.heap.size := by omega)); (try (have hz1 : w.heap.size + 1 < w1.heap.size := by omega)); (try (have hz2 : w.heap.size + 1 + 1 < w1.heap.size := by omega)); (try (have hz3 : w.heap.size + 1 + 1 + 1 < w1.heap.size := by omega))) | (go_at_call 49; refine (isHeading_any _ _ _).mono ?_; rintro e w1 ⟨rfl, hx⟩; obtain ⟨hc, hf⟩ := hx.facts; have hz := hx.size; (try simp at hz); (try (have hz0 : w.heap.size < w1.heap.size := by omega)); (try (have hz1 : w.heap.size + 1 < w1.heap.size := by omega)); (try (have hz2 : w.heap.size + 1 + 1 < w1.heap.size := by omega)); (try (have hz3 : w.heap.size + 1 + 1 + 1 < w1.heap.size := by omega))))
    go_ret2
    exact ⟨ret_int2 HQ.out HC.out, (by repeat (first | exact Ext.refl _ | assumption | apply Ext.alloc | apply Ext.drew | (refine Ext.trans ?_ (by assumption)) | (refine Ext.setNew ?_ (by simp <;> omega) _)))⟩
  cases h2 : hdB u v
  · have HQ := Lib.hid (show soQ x y u v = 0 by unfold soQ; rw [if_neg (by simp [h2])])
    have HC := Lib.hid (show toC x y u v = 1 by unfold toC; rw [if_neg (by simp [h2])])
    go_enter Try.func17, Try.ntmps17
    go_wp2_with (first | (go_at_call 48; refine (windValid_any _ _ _).mono ?_; rintro e w1 ⟨rfl, hx⟩; obtain ⟨hc, hf⟩ := hx.facts; have hz := hx.size; (try simp at hz); (try (have hz0 : w.heap.size < w1.heap.size := by omega)); (try (have hz1 : w.heap.size + 1 < w1.heap.size := by omega)); (try (have hz2 : w.heap.size + 1 + 1 < w1.heap.size := by omega)); (try (have hz3 : w.heap.size + 1 + 1 + 1 < w1.heap.size := by omega))) | (go_at_call 49; refine (isHeading_any _ _ _).mono ?_; rintro e w1 ⟨rfl, hx⟩; obtain ⟨hc, hf⟩ := hx.facts; have hz := hx.size; (try simp at hz); (try (have hz0 : w.heap.size < w1.heap.size := by omega)); (try (have hz1 : w.heap.size + 1 < w1.heap.size := by omega)); (try (have hz2 : w.heap.size + 1 + 1 < w1.heap.size := by omega)); (try (have hz3 : w.heap.size + 1 + 1 + 1 < w1.heap.size := by omega))))
    go_ret2
    exact ⟨ret_int2 HQ.out HC.out, (by repeat (first | exact Ext.refl _ | assumption | apply Ext.alloc | apply Ext.drew | (refine Ext.trans ?_ (by assumption)) | (refine Ext.setNew ?_ (by simp <;> omega) _)))⟩
  have HQ := Lib.hid (show soQ x y u v = slN (u * y - v * x) (u * x + v * y) from if_pos ⟨h1, h2⟩)
  have HC := Lib.hid (show toC x y u v = 0 from if_pos ⟨h1, h2⟩)
  obtain ⟨a1, a2, a3⟩ := wdB_yes h1
  obtain ⟨b1, b2, b3⟩ := hdB_yes h2
  have A := Lib.hid (And.intro a1 (And.intro a2 (And.intro b1 (And.intro b2 (And.intro a3 b3)))))
  clear a1 a2 a3 b1 b2 b3
  obtain ⟨W0, hW0⟩ : ∃ W0, W0 = (w.alloc (.cells #[.int .i64 x, .int .i64 y] 25)).alloc (.cells #[.int .i64 u, .int .i64 v] 26) := ⟨_, rfl⟩
  have hX : Ext w W0 := hW0 ▸ (((Ext.refl w).alloc _).alloc _)
  have hs0 : W0.heap.size = w.heap.size + 1 + 1 := by rw [hW0]; simp
  have e00 : ∀ w', (Ext W0) w' → w'.cell? ⟨w.heap.size, 0, none⟩ = some (.int .i64 x) := fun w' h => h.cellOf (by rw [hW0]; exact ((Ext.refl _).alloc _).cellOf (boxed 0 rfl (by simp)))
  have e01 : ∀ w', (Ext W0) w' → w'.cell? ⟨w.heap.size, 1, none⟩ = some (.int .i64 y) := fun w' h => h.cellOf (by rw [hW0]; exact ((Ext.refl _).alloc _).cellOf (boxed 1 rfl (by simp)))
  have e10 : ∀ w', (Ext W0) w' → w'.cell? ⟨w.heap.size + 1, 0, none⟩ = some (.int .i64 u) := fun w' h => h.cellOf (by rw [hW0]; exact boxed 0 rfl (by simp))
  have e11 : ∀ w', (Ext W0) w' → w'.cell? ⟨w.heap.size + 1, 1, none⟩ = some (.int .i64 v) := fun w' h => h.cellOf (by rw [hW0]; exact boxed 1 rfl (by simp))
  have q00 := e00 W0 (Ext.refl W0)
  have q01 := e01 W0 (Ext.refl W0)
  go_enter Try.func17, Try.ntmps17
  go_wp2_with fail
  refine (windValid_any _ _ _).mono ?_
  rintro e w1 ⟨rfl, hz⟩
  rw [← hW0] at hz
  clear hW0 q00 q01
  replace hz : Ext W0 w1 := hz
  have q10 := e10 w1 hz
  have q11 := e11 w1 hz
  go_wp2_with fail
  refine (isHeading_any _ _ _).mono ?_
  rintro e w2 ⟨rfl, hy⟩
  replace hz := hz.trans hy
  clear q10 q11 hy
  have q00 := e00 w2 hz
  have q01 := e01 w2 hz
  have q10 := e10 w2 hz
  have q11 := e11 w2 hz
  go_wp2_with fail
  refine (sailOf_any _ _ _ _ _ A.out.1 A.out.2.1 A.out.2.2.1 A.out.2.2.2.1 A.out.2.2.2.2.1 A.out.2.2.2.2.2).mono ?_
  rintro e w3 ⟨rfl, hy⟩
  go_wp2
  go_ret2
  exact ⟨ret_int2 HQ.out HC.out, hX.trans (hz.trans hy)⟩

theorem sailOf_spec (x y u v : Int) (w : World) : Calls Try.prog 33 #[Pt x y, Pt u v] w fun e w' => e = .returned (.tuple #[.int .i64 (soQ x y u v), .int .i64 (toC x y u v)]) ∧ Ext w w' := by
  cases h1 : wdB x y
  · have HQ := Lib.hid (show soQ x y u v = 0 by unfold soQ; rw [if_neg (by simp [h1])])
    have HC := Lib.hid (show toC x y u v = 1 by unfold toC; rw [if_neg (by simp [h1])])
    go_enter Try.func33, Try.ntmps33
    go_wp2_with (first | (go_at_call 29; refine (isWind_spec _ _ _).mono ?_; rintro e w1 ⟨rfl, hx⟩; obtain ⟨hc, hf⟩ := hx.facts; have hz := hx.size; (try simp at hz); (try (have hz0 : w.heap.size < w1.heap.size := by omega)); (try (have hz1 : w.heap.size + 1 < w1.heap.size := by omega)); (try (have hz2 : w.heap.size + 1 + 1 < w1.heap.size := by omega)); (try (have hz3 : w.heap.size + 1 + 1 + 1 < w1.heap.size := by omega))) | (go_at_call 51; refine (headingS_any _ _ _).mono ?_; rintro e w1 ⟨rfl, hx⟩; obtain ⟨hc, hf⟩ := hx.facts; have hz := hx.size; (try simp at hz); (try (have hz0 : w.heap.size < w1.heap.size := by omega)); (try (have hz1 : w.heap.size + 1 < w1.heap.size := by omega)); (try (have hz2 : w.heap.size + 1 + 1 < w1.heap.size := by omega)); (try (have hz3 : w.heap.size + 1 + 1 + 1 < w1.heap.size := by omega))))
    go_ret2
    exact ⟨ret_int2 HQ.out HC.out, (by repeat (first | exact Ext.refl _ | assumption | apply Ext.alloc | apply Ext.drew | (refine Ext.trans ?_ (by assumption)) | (refine Ext.setNew ?_ (by simp <;> omega) _)))⟩
  cases h2 : hdB u v
  · have HQ := Lib.hid (show soQ x y u v = 0 by unfold soQ; rw [if_neg (by simp [h2])])
    have HC := Lib.hid (show toC x y u v = 1 by unfold toC; rw [if_neg (by simp [h2])])
    go_enter Try.func33, Try.ntmps33
    go_wp2_with (first | (go_at_call 29; refine (isWind_spec _ _ _).mono ?_; rintro e w1 ⟨rfl, hx⟩; obtain ⟨hc, hf⟩ := hx.facts; have hz := hx.size; (try simp at hz); (try (have hz0 : w.heap.size < w1.heap.size := by omega)); (try (have hz1 : w.heap.size + 1 < w1.heap.size := by omega)); (try (have hz2 : w.heap.size + 1 + 1 < w1.heap.size := by omega)); (try (have hz3 : w.heap.size + 1 + 1 + 1 < w1.heap.size := by omega))) | (go_at_call 51; refine (headingS_any _ _ _).mono ?_; rintro e w1 ⟨rfl, hx⟩; obtain ⟨hc, hf⟩ := hx.facts; have hz := hx.size; (try simp at hz); (try (have hz0 : w.heap.size < w1.heap.size := by omega)); (try (have hz1 : w.heap.size + 1 < w1.heap.size := by omega)); (try (have hz2 : w.heap.size + 1 + 1 < w1.heap.size := by omega)); (try (have hz3 : w.heap.size + 1 + 1 + 1 < w1.heap.size := by omega))))
    go_ret2
    exact ⟨ret_int2 HQ.out HC.out, (by repeat (first | exact Ext.refl _ | assumption | apply Ext.alloc | apply Ext.drew | (refine Ext.trans ?_ (by assumption)) | (refine Ext.setNew ?_ (by simp <;> omega) _)))⟩
  have HQ := Lib.hid (show soQ x y u v = slN (u * y - v * x) (u * x + v * y) from if_pos ⟨h1, h2⟩)
  have HC := Lib.hid (show toC x y u v = 0 from if_pos ⟨h1, h2⟩)
  obtain ⟨a1, a2, a3⟩ := wdB_yes h1
  obtain ⟨b1, b2, b3⟩ := hdB_yes h2
  have A := Lib.hid (And.intro a1 (And.intro a2 (And.intro b1 (And.intro b2 (And.intro a3 b3)))))
  clear a1 a2 a3 b1 b2 b3
  obtain ⟨W0, hW0⟩ : ∃ W0, W0 = (w.alloc (.cells #[.int .i64 x, .int .i64 y] 25)).alloc (.cells #[.int .i64 u, .int .i64 v] 26) := ⟨_, rfl⟩
  have hX : Ext w W0 := hW0 ▸ (((Ext.refl w).alloc _).alloc _)
  have hs0 : W0.heap.size = w.heap.size + 1 + 1 := by rw [hW0]; simp
  have e00 : ∀ w', (Ext W0) w' → w'.cell? ⟨w.heap.size, 0, none⟩ = some (.int .i64 x) := fun w' h => h.cellOf (by rw [hW0]; exact ((Ext.refl _).alloc _).cellOf (boxed 0 rfl (by simp)))
  have e01 : ∀ w', (Ext W0) w' → w'.cell? ⟨w.heap.size, 1, none⟩ = some (.int .i64 y) := fun w' h => h.cellOf (by rw [hW0]; exact ((Ext.refl _).alloc _).cellOf (boxed 1 rfl (by simp)))
  have e10 : ∀ w', (Ext W0) w' → w'.cell? ⟨w.heap.size + 1, 0, none⟩ = some (.int .i64 u) := fun w' h => h.cellOf (by rw [hW0]; exact boxed 0 rfl (by simp))
  have e11 : ∀ w', (Ext W0) w' → w'.cell? ⟨w.heap.size + 1, 1, none⟩ = some (.int .i64 v) := fun w' h => h.cellOf (by rw [hW0]; exact boxed 1 rfl (by simp))
  have q00 := e00 W0 (Ext.refl W0)
  have q01 := e01 W0 (Ext.refl W0)
  go_enter Try.func33, Try.ntmps33
  go_wp2_with fail
  refine (isWind_spec _ _ _).mono ?_
  rintro e w1 ⟨rfl, hz⟩
  rw [← hW0] at hz
  clear hW0 q00 q01
  replace hz : Ext W0 w1 := hz
  have q10 := e10 w1 hz
  have q11 := e11 w1 hz
  go_wp2_with fail
  refine (headingS_any _ _ _).mono ?_
  rintro e w2 ⟨rfl, hy⟩
  replace hz := hz.trans hy
  clear q10 q11 hy
  have q00 := e00 w2 hz
  have q01 := e01 w2 hz
  have q10 := e10 w2 hz
  have q11 := e11 w2 hz
  go_wp2_with fail
  refine (sailS_any _ _ _ _ _ A.out.1 A.out.2.1 A.out.2.2.1 A.out.2.2.2.1).mono ?_
  rintro e w3 ⟨rfl, hy⟩
  go_wp2
  go_ret2
  exact ⟨ret_int2 HQ.out HC.out, hX.trans (hz.trans hy)⟩

end Go.Proofs.Ytkodmdfcppnfoaa.Wnd
