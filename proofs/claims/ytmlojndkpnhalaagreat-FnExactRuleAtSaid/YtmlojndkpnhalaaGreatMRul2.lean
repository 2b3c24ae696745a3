import Derived.Test.YtmlojndkpnhalaaGreatRul
import Derived.Test.YtmlojndkpnhalaaGreatWnd2
import Derived.Laws.EntriesVeiled
import Derived.Deep.LoopGhost
namespace Go.Proofs.YtmlojndkpnhalaaGreat.Rul
open Go.ChangeShapes Go.WideShapes Go.ChangeAt Go.RowKit
open Go.Proofs.YtmlojndkpnhalaaGreat.Num Go.Proofs.YtmlojndkpnhalaaGreat.Kit Go.Proofs.YtmlojndkpnhalaaGreat.Pts Go.Proofs.YtmlojndkpnhalaaGreat.Seg Go.Proofs.YtmlojndkpnhalaaGreat.Wnd Go.Proofs.YtmlojndkpnhalaaGreat.Hul
set_option linter.unusedVariables false
set_option linter.unusedSimpArgs false
abbrev Fv (f : FuncId) : Value := .func (.func f) #[] #[]
theorem tk_cases (c : Int) : tkN c = 0 ∨ tkN c = 1 ∨ tkN c = 2 := by
  unfold tkN
  split
  · exact .inr (.inl rfl)
  · split
    · exact .inr (.inr rfl)
    · exact .inl rfl
theorem onlyOneOf_any (s t : Bool) (w : World) : Calls Tryz.prog 275 #[.bool s, .bool t] w fun e w' => e = .returned (.int .i64 (ooN s t)) ∧ w = w' := by
  cases s <;> cases t
  all_goals
    go_enter Tryz.func275, Tryz.ntmps275
    go_wp2
    go_ret
    exact ⟨rfl, rfl⟩
set_option maxHeartbeats 1000000 in
theorem judgeTurning_any (x y a b c d n : Int) (s : Bool) (p q u v m : Int) (t : Bool) (w : World) : Calls Tryz.prog 225 #[Pt x y, Bo a b c d n s, Bo p q u v m t] w fun e w' => e = .returned (.tuple #[.int .i64 (ooN s t), .bool (s || t)]) ∧ Ext w w' := by
  have PO := Lib.hid (fun w => onlyOneOf_any s t w)
  generalize ooN s t = K at *
  obtain ⟨W0, hW0⟩ : ∃ W0, W0 = ((w.alloc (.cells #[.int .i64 x, .int .i64 y] 54)).alloc (.cells #[.int .i64 a, .int .i64 b, .int .i64 c, .int .i64 d, .int .i64 n, .bool s] 64)).alloc (.cells #[.int .i64 p, .int .i64 q, .int .i64 u, .int .i64 v, .int .i64 m, .bool t] 64) := ⟨_, rfl⟩
  have hX : Ext w W0 := hW0 ▸ ((((Ext.refl w).alloc _).alloc _).alloc _)
  have hs0 : W0.heap.size = w.heap.size + 1 + 1 + 1 := by rw [hW0]; simp
  have e00 : ∀ w', (Ext W0) w' → w'.cell? ⟨w.heap.size, 0, none⟩ = some (.int .i64 x) := fun w' h => h.cellOf (by rw [hW0]; exact (((Ext.refl _).alloc _).alloc _).cellOf (boxed 0 rfl (by simp)))
  have e01 : ∀ w', (Ext W0) w' → w'.cell? ⟨w.heap.size, 1, none⟩ = some (.int .i64 y) := fun w' h => h.cellOf (by rw [hW0]; exact (((Ext.refl _).alloc _).alloc _).cellOf (boxed 1 rfl (by simp)))
  have e10 : ∀ w', (Ext W0) w' → w'.cell? ⟨w.heap.size + 1, 0, none⟩ = some (.int .i64 a) := fun w' h => h.cellOf (by rw [hW0]; exact ((Ext.refl _).alloc _).cellOf (boxed 0 rfl (by simp)))
  have e11 : ∀ w', (Ext W0) w' → w'.cell? ⟨w.heap.size + 1, 1, none⟩ = some (.int .i64 b) := fun w' h => h.cellOf (by rw [hW0]; exact ((Ext.refl _).alloc _).cellOf (boxed 1 rfl (by simp)))
  have e12 : ∀ w', (Ext W0) w' → w'.cell? ⟨w.heap.size + 1, 2, none⟩ = some (.int .i64 c) := fun w' h => h.cellOf (by rw [hW0]; exact ((Ext.refl _).alloc _).cellOf (boxed 2 rfl (by simp)))
  have e13 : ∀ w', (Ext W0) w' → w'.cell? ⟨w.heap.size + 1, 3, none⟩ = some (.int .i64 d) := fun w' h => h.cellOf (by rw [hW0]; exact ((Ext.refl _).alloc _).cellOf (boxed 3 rfl (by simp)))
  have e14 : ∀ w', (Ext W0) w' → w'.cell? ⟨w.heap.size + 1, 4, none⟩ = some (.int .i64 n) := fun w' h => h.cellOf (by rw [hW0]; exact ((Ext.refl _).alloc _).cellOf (boxed 4 rfl (by simp)))
  have e15 : ∀ w', (Ext W0) w' → w'.cell? ⟨w.heap.size + 1, 5, none⟩ = some (.bool s) := fun w' h => h.cellOf (by rw [hW0]; exact ((Ext.refl _).alloc _).cellOf (boxed 5 rfl (by simp)))
  have e20 : ∀ w', (Ext W0) w' → w'.cell? ⟨w.heap.size + 1 + 1, 0, none⟩ = some (.int .i64 p) := fun w' h => h.cellOf (by rw [hW0]; exact boxed 0 rfl (by simp))
  have e21 : ∀ w', (Ext W0) w' → w'.cell? ⟨w.heap.size + 1 + 1, 1, none⟩ = some (.int .i64 q) := fun w' h => h.cellOf (by rw [hW0]; exact boxed 1 rfl (by simp))
  have e22 : ∀ w', (Ext W0) w' → w'.cell? ⟨w.heap.size + 1 + 1, 2, none⟩ = some (.int .i64 u) := fun w' h => h.cellOf (by rw [hW0]; exact boxed 2 rfl (by simp))
  have e23 : ∀ w', (Ext W0) w' → w'.cell? ⟨w.heap.size + 1 + 1, 3, none⟩ = some (.int .i64 v) := fun w' h => h.cellOf (by rw [hW0]; exact boxed 3 rfl (by simp))
  have e24 : ∀ w', (Ext W0) w' → w'.cell? ⟨w.heap.size + 1 + 1, 4, none⟩ = some (.int .i64 m) := fun w' h => h.cellOf (by rw [hW0]; exact boxed 4 rfl (by simp))
  have e25 : ∀ w', (Ext W0) w' → w'.cell? ⟨w.heap.size + 1 + 1, 5, none⟩ = some (.bool t) := fun w' h => h.cellOf (by rw [hW0]; exact boxed 5 rfl (by simp))
  cases s <;> cases t
  all_goals
    have hr := Ext.refl W0
    go_enter Tryz.func225, Tryz.ntmps225
    go_wp2_with fail
    rw [← hW0]
    clear hW0
    refine wp_region_held_drew (S := (fun w' => Ext W0 w')) (by kernel_rfl) (by (try dsimp only); first | go_keep | exact (Ext.refl _).drew | exact Res.new2.drew | exact Res.new4.drew | exact ResB.drew (by assumption) | exact ResC.drew (by assumption) | assumption | exact Ext.drew (by assumption) | exact Res.drew (by assumption)) (fun hHeld => ?_)
    refine Ord.K 0 8 ?_
    refine Ord.K 1 9 ?_
    refine Ord.K 2 10 ?_
    refine Ord.K 3 11 ?_
    refine Ord.K 5 13 ?_
    refine Ord.K 6 14 ?_
    (refine wpAnyH_ready (rs := [4]) (by kernel_rfl) (by simp) ?_; refine AllReadyH.cons rfl (fun K hK => ?_) AllReadyH.nil; go_simp; (go_at_call 275; refine (PO.out _).mono ?_; rintro e w4 ⟨rfl, rfl⟩); go_wp2_with fail; (refine hK.out _ _ (by first | assumption | exact Ext.trans (by assumption) hy | exact Res.ext (by assumption) hy | exact ResB.ext (by assumption) hy | exact ResC.ext (by assumption) hy | (go_split_ands; (repeat' apply And.intro) <;> exact Ext.cellOf hy (by assumption))) (fun hHeld => ?_)); clear hK K; (try simp only [Act.put, Ord.a, Ord.b, Ord.c]))
    refine Ord.K 7 15 ?_
    (first | (refine Ord.s 8 16 ?_ ?_; rfl; (try simp only [Act.put, Ord.a, Ord.b, Ord.c])) | refine Ord.K 8 16 ?_)
    (first | (refine Ord.s 9 17 ?_ ?_; rfl; (try simp only [Act.put, Ord.a, Ord.b, Ord.c])) | refine Ord.K 9 17 ?_)
    refine Ord.K 10 18 ?_
    refine Ord.K 11 6 ?_
    refine Ord.K 12 7 ?_
    refine wpAnyH_done (by kernel_rfl) ?_ _
    go_wp2
    go_ret2
    exact ⟨rfl, hX.trans (by assumption)⟩
set_option maxHeartbeats 1000000 in
theorem tacksOf_any (x y a b c d n : Int) (s : Bool) (p q u v m : Int) (t : Bool) (w : World) (hx : -1000 ≤ x ∧ x ≤ 1000) (hy : -1000 ≤ y ∧ y ≤ 1000) (hc : -2000000 ≤ c ∧ c ≤ 2000000) (hd : -2000000 ≤ d ∧ d ≤ 2000000) (hu : -2000000 ≤ u ∧ u ≤ 2000000) (hv : -2000000 ≤ v ∧ v ≤ 2000000) :
    Calls Tryz.prog 276 #[Pt x y, Bo a b c d n s, Bo p q u v m t] w fun e w' => e = .returned (.tuple #[.int .i64 (tkN (c * y - d * x)), .int .i64 (tkN (u * y - v * x))]) ∧ Ext w w' := by
  have TA := Lib.hid (fun k w (h : WB w k x y) => tell_any k x y c d w h hx hy hc hd)
  have TB := Lib.hid (fun k w (h : WB w k x y) => tell_any k x y u v w h hx hy hu hv)
  generalize tkN (c * y - d * x) = i at *
  generalize tkN (u * y - v * x) = j at *
  clear hx hy hc hd hu hv
  obtain ⟨W0, hW0⟩ : ∃ W0, W0 = ((w.alloc (.cells #[.int .i64 x, .int .i64 y] 54)).alloc (.cells #[.int .i64 a, .int .i64 b, .int .i64 c, .int .i64 d, .int .i64 n, .bool s] 64)).alloc (.cells #[.int .i64 p, .int .i64 q, .int .i64 u, .int .i64 v, .int .i64 m, .bool t] 64) := ⟨_, rfl⟩
  have hX : Ext w W0 := hW0 ▸ ((((Ext.refl w).alloc _).alloc _).alloc _)
  have hs0 : W0.heap.size = w.heap.size + 1 + 1 + 1 := by rw [hW0]; simp
  have e00 : ∀ w', (Ext W0) w' → w'.cell? ⟨w.heap.size, 0, none⟩ = some (.int .i64 x) := fun w' h => h.cellOf (by rw [hW0]; exact (((Ext.refl _).alloc _).alloc _).cellOf (boxed 0 rfl (by simp)))
  have e01 : ∀ w', (Ext W0) w' → w'.cell? ⟨w.heap.size, 1, none⟩ = some (.int .i64 y) := fun w' h => h.cellOf (by rw [hW0]; exact (((Ext.refl _).alloc _).alloc _).cellOf (boxed 1 rfl (by simp)))
  have e10 : ∀ w', (Ext W0) w' → w'.cell? ⟨w.heap.size + 1, 0, none⟩ = some (.int .i64 a) := fun w' h => h.cellOf (by rw [hW0]; exact ((Ext.refl _).alloc _).cellOf (boxed 0 rfl (by simp)))
  have e11 : ∀ w', (Ext W0) w' → w'.cell? ⟨w.heap.size + 1, 1, none⟩ = some (.int .i64 b) := fun w' h => h.cellOf (by rw [hW0]; exact ((Ext.refl _).alloc _).cellOf (boxed 1 rfl (by simp)))
  have e12 : ∀ w', (Ext W0) w' → w'.cell? ⟨w.heap.size + 1, 2, none⟩ = some (.int .i64 c) := fun w' h => h.cellOf (by rw [hW0]; exact ((Ext.refl _).alloc _).cellOf (boxed 2 rfl (by simp)))
  have e13 : ∀ w', (Ext W0) w' → w'.cell? ⟨w.heap.size + 1, 3, none⟩ = some (.int .i64 d) := fun w' h => h.cellOf (by rw [hW0]; exact ((Ext.refl _).alloc _).cellOf (boxed 3 rfl (by simp)))
  have e14 : ∀ w', (Ext W0) w' → w'.cell? ⟨w.heap.size + 1, 4, none⟩ = some (.int .i64 n) := fun w' h => h.cellOf (by rw [hW0]; exact ((Ext.refl _).alloc _).cellOf (boxed 4 rfl (by simp)))
  have e15 : ∀ w', (Ext W0) w' → w'.cell? ⟨w.heap.size + 1, 5, none⟩ = some (.bool s) := fun w' h => h.cellOf (by rw [hW0]; exact ((Ext.refl _).alloc _).cellOf (boxed 5 rfl (by simp)))
  have e20 : ∀ w', (Ext W0) w' → w'.cell? ⟨w.heap.size + 1 + 1, 0, none⟩ = some (.int .i64 p) := fun w' h => h.cellOf (by rw [hW0]; exact boxed 0 rfl (by simp))
  have e21 : ∀ w', (Ext W0) w' → w'.cell? ⟨w.heap.size + 1 + 1, 1, none⟩ = some (.int .i64 q) := fun w' h => h.cellOf (by rw [hW0]; exact boxed 1 rfl (by simp))
  have e22 : ∀ w', (Ext W0) w' → w'.cell? ⟨w.heap.size + 1 + 1, 2, none⟩ = some (.int .i64 u) := fun w' h => h.cellOf (by rw [hW0]; exact boxed 2 rfl (by simp))
  have e23 : ∀ w', (Ext W0) w' → w'.cell? ⟨w.heap.size + 1 + 1, 3, none⟩ = some (.int .i64 v) := fun w' h => h.cellOf (by rw [hW0]; exact boxed 3 rfl (by simp))
  have e24 : ∀ w', (Ext W0) w' → w'.cell? ⟨w.heap.size + 1 + 1, 4, none⟩ = some (.int .i64 m) := fun w' h => h.cellOf (by rw [hW0]; exact boxed 4 rfl (by simp))
  have e25 : ∀ w', (Ext W0) w' → w'.cell? ⟨w.heap.size + 1 + 1, 5, none⟩ = some (.bool t) := fun w' h => h.cellOf (by rw [hW0]; exact boxed 5 rfl (by simp))
  have hr := Ext.refl W0
  go_enter Tryz.func276, Tryz.ntmps276
  go_wp2_with fail
  rw [← hW0]
  clear hW0
  refine (teller_any _ _ _).mono ?_
  rintro e w1 ⟨k, rfl, hk, hb, hz⟩
  replace hz : Ext W0 w1 := hz
  have TA2 := Lib.hid (fun w (h : Ext w1 w) => TA.out k w (hb.ext h))
  have TB2 := Lib.hid (fun w (h : Ext w1 w) => TB.out k w (hb.ext h))
  clear TA TB hb hk
  replace e12 : ∀ w', Ext w1 w' → w'.cell? ⟨w.heap.size + 1, 2, none⟩ = some (.int .i64 c) := fun w' h => e12 w' (hz.trans h)
  replace e13 : ∀ w', Ext w1 w' → w'.cell? ⟨w.heap.size + 1, 3, none⟩ = some (.int .i64 d) := fun w' h => e13 w' (hz.trans h)
  replace e22 : ∀ w', Ext w1 w' → w'.cell? ⟨w.heap.size + 1 + 1, 2, none⟩ = some (.int .i64 u) := fun w' h => e22 w' (hz.trans h)
  replace e23 : ∀ w', Ext w1 w' → w'.cell? ⟨w.heap.size + 1 + 1, 3, none⟩ = some (.int .i64 v) := fun w' h => e23 w' (hz.trans h)
  clear e00 e01 e10 e11 e14 e15 e20 e21 e24 e25 hr
  have hr := Ext.refl w1
  go_wp2_with fail
  refine wp_region_held_drew (S := (fun w' => Ext w1 w')) (by kernel_rfl) (by (try dsimp only); first | go_keep | exact (Ext.refl _).drew | exact Res.new2.drew | exact Res.new4.drew | exact ResB.drew (by assumption) | exact ResC.drew (by assumption) | assumption | exact Ext.drew (by assumption) | exact Res.drew (by assumption)) (fun hHeld => ?_)
  refine Ord.K 0 11 ?_
  refine Ord.K 1 12 ?_
  refine Ord.K 2 13 ?_
  refine Ord.K 3 14 ?_
  refine Ord.K 5 16 ?_
  refine Ord.K 6 17 ?_
  refine Ord.K 7 18 ?_
  refine Ord.K 8 19 ?_
  (refine wpAnyH_ready (rs := [4]) (by kernel_rfl) (by simp) ?_; refine AllReadyH.cons rfl (fun K hK => ?_) AllReadyH.nil; go_simp; (first | (go_at_call 307; with_reducible refine (TA2.out _ (by assumption)).mono ?_; rintro e w4 ⟨rfl, hy⟩) | (go_at_call 307; with_reducible refine (TB2.out _ (by assumption)).mono ?_; rintro e w4 ⟨rfl, hy⟩)); go_wp2_with fail; (refine hK.out _ _ (by first | assumption | exact Ext.trans (by assumption) hy | exact Res.ext (by assumption) hy | exact ResB.ext (by assumption) hy | exact ResC.ext (by assumption) hy | (go_split_ands; (repeat' apply And.intro) <;> exact Ext.cellOf hy (by assumption))) (fun hHeld => ?_)); clear hK K; (try simp only [Act.put, Ord.a, Ord.b, Ord.c]))
  (refine wpAnyH_ready (rs := [9]) (by kernel_rfl) (by simp) ?_; refine AllReadyH.cons rfl (fun K hK => ?_) AllReadyH.nil; go_simp; (first | (go_at_call 307; with_reducible refine (TA2.out _ (by assumption)).mono ?_; rintro e w4 ⟨rfl, hy⟩) | (go_at_call 307; with_reducible refine (TB2.out _ (by assumption)).mono ?_; rintro e w4 ⟨rfl, hy⟩)); go_wp2_with fail; (refine hK.out _ _ (by first | assumption | exact Ext.trans (by assumption) hy | exact Res.ext (by assumption) hy | exact ResB.ext (by assumption) hy | exact ResC.ext (by assumption) hy | (go_split_ands; (repeat' apply And.intro) <;> exact Ext.cellOf hy (by assumption))) (fun hHeld => ?_)); clear hK K; (try simp only [Act.put, Ord.a, Ord.b, Ord.c]))
  refine Ord.K 10 6 ?_
  refine Ord.K 11 7 ?_
  refine wpAnyH_done (by kernel_rfl) ?_ _
  go_wp2
  go_ret2
  exact ⟨rfl, hX.trans (hz.trans (by assumption))⟩
set_option maxHeartbeats 1000000 in
theorem judgeNoTack_any (x y a b c d n : Int) (s : Bool) (p q u v m : Int) (t : Bool) (w : World) (hx : -1000 ≤ x ∧ x ≤ 1000) (hy : -1000 ≤ y ∧ y ≤ 1000) (hc : -2000000 ≤ c ∧ c ≤ 2000000) (hd : -2000000 ≤ d ∧ d ≤ 2000000) (hu : -2000000 ≤ u ∧ u ≤ 2000000) (hv : -2000000 ≤ v ∧ v ≤ 2000000) :
    Calls Tryz.prog 226 #[Pt x y, Bo a b c d n s, Bo p q u v m t] w fun e w' => e = .returned (.tuple #[.int .i64 0, .bool ((tkN (c * y - d * x) == 0) || (tkN (u * y - v * x) == 0))]) ∧ Ext w w' := by
  have PT := Lib.hid (fun w => tacksOf_any x y a b c d n s p q u v m t w hx hy hc hd hu hv)
  generalize tkN (c * y - d * x) = i at *
  generalize tkN (u * y - v * x) = j at *
  clear hx hy hc hd hu hv
  obtain ⟨W0, hW0⟩ : ∃ W0, W0 = ((w.alloc (.cells #[.int .i64 x, .int .i64 y] 54)).alloc (.cells #[.int .i64 a, .int .i64 b, .int .i64 c, .int .i64 d, .int .i64 n, .bool s] 64)).alloc (.cells #[.int .i64 p, .int .i64 q, .int .i64 u, .int .i64 v, .int .i64 m, .bool t] 64) := ⟨_, rfl⟩
  have hX : Ext w W0 := hW0 ▸ ((((Ext.refl w).alloc _).alloc _).alloc _)
  have hs0 : W0.heap.size = w.heap.size + 1 + 1 + 1 := by rw [hW0]; simp
  have e00 : ∀ w', (Ext W0) w' → w'.cell? ⟨w.heap.size, 0, none⟩ = some (.int .i64 x) := fun w' h => h.cellOf (by rw [hW0]; exact (((Ext.refl _).alloc _).alloc _).cellOf (boxed 0 rfl (by simp)))
  have e01 : ∀ w', (Ext W0) w' → w'.cell? ⟨w.heap.size, 1, none⟩ = some (.int .i64 y) := fun w' h => h.cellOf (by rw [hW0]; exact (((Ext.refl _).alloc _).alloc _).cellOf (boxed 1 rfl (by simp)))
  have e10 : ∀ w', (Ext W0) w' → w'.cell? ⟨w.heap.size + 1, 0, none⟩ = some (.int .i64 a) := fun w' h => h.cellOf (by rw [hW0]; exact ((Ext.refl _).alloc _).cellOf (boxed 0 rfl (by simp)))
  have e11 : ∀ w', (Ext W0) w' → w'.cell? ⟨w.heap.size + 1, 1, none⟩ = some (.int .i64 b) := fun w' h => h.cellOf (by rw [hW0]; exact ((Ext.refl _).alloc _).cellOf (boxed 1 rfl (by simp)))
  have e12 : ∀ w', (Ext W0) w' → w'.cell? ⟨w.heap.size + 1, 2, none⟩ = some (.int .i64 c) := fun w' h => h.cellOf (by rw [hW0]; exact ((Ext.refl _).alloc _).cellOf (boxed 2 rfl (by simp)))
  have e13 : ∀ w', (Ext W0) w' → w'.cell? ⟨w.heap.size + 1, 3, none⟩ = some (.int .i64 d) := fun w' h => h.cellOf (by rw [hW0]; exact ((Ext.refl _).alloc _).cellOf (boxed 3 rfl (by simp)))
  have e14 : ∀ w', (Ext W0) w' → w'.cell? ⟨w.heap.size + 1, 4, none⟩ = some (.int .i64 n) := fun w' h => h.cellOf (by rw [hW0]; exact ((Ext.refl _).alloc _).cellOf (boxed 4 rfl (by simp)))
  have e15 : ∀ w', (Ext W0) w' → w'.cell? ⟨w.heap.size + 1, 5, none⟩ = some (.bool s) := fun w' h => h.cellOf (by rw [hW0]; exact ((Ext.refl _).alloc _).cellOf (boxed 5 rfl (by simp)))
  have e20 : ∀ w', (Ext W0) w' → w'.cell? ⟨w.heap.size + 1 + 1, 0, none⟩ = some (.int .i64 p) := fun w' h => h.cellOf (by rw [hW0]; exact boxed 0 rfl (by simp))
  have e21 : ∀ w', (Ext W0) w' → w'.cell? ⟨w.heap.size + 1 + 1, 1, none⟩ = some (.int .i64 q) := fun w' h => h.cellOf (by rw [hW0]; exact boxed 1 rfl (by simp))
  have e22 : ∀ w', (Ext W0) w' → w'.cell? ⟨w.heap.size + 1 + 1, 2, none⟩ = some (.int .i64 u) := fun w' h => h.cellOf (by rw [hW0]; exact boxed 2 rfl (by simp))
  have e23 : ∀ w', (Ext W0) w' → w'.cell? ⟨w.heap.size + 1 + 1, 3, none⟩ = some (.int .i64 v) := fun w' h => h.cellOf (by rw [hW0]; exact boxed 3 rfl (by simp))
  have e24 : ∀ w', (Ext W0) w' → w'.cell? ⟨w.heap.size + 1 + 1, 4, none⟩ = some (.int .i64 m) := fun w' h => h.cellOf (by rw [hW0]; exact boxed 4 rfl (by simp))
  have e25 : ∀ w', (Ext W0) w' → w'.cell? ⟨w.heap.size + 1 + 1, 5, none⟩ = some (.bool t) := fun w' h => h.cellOf (by rw [hW0]; exact boxed 5 rfl (by simp))
  go_enter Tryz.func226, Tryz.ntmps226
  go_wp2_with fail
  rw [← hW0]
  clear hW0
  refine (PT.out _).mono ?_
  rintro e w1 ⟨rfl, hz⟩
  replace hz : Ext W0 w1 := hz
  cases h1 : (i == 0) <;> cases h2 : (j == 0)
  all_goals
    go_wp2
    go_ret2
    exact ⟨by rw [h1, h2]; rfl, hX.trans hz⟩
set_option maxHeartbeats 1000000 in
theorem judgeOpposite_any (x y a b c d n : Int) (s : Bool) (p q u v m : Int) (t : Bool) (w : World) (hx : -1000 ≤ x ∧ x ≤ 1000) (hy : -1000 ≤ y ∧ y ≤ 1000) (hc : -2000000 ≤ c ∧ c ≤ 2000000) (hd : -2000000 ≤ d ∧ d ≤ 2000000) (hu : -2000000 ≤ u ∧ u ≤ 2000000) (hv : -2000000 ≤ v ∧ v ≤ 2000000) :
    Calls Tryz.prog 227 #[Pt x y, Bo a b c d n s, Bo p q u v m t] w fun e w' => e = .returned (.tuple #[.int .i64 (ooN (tkN (c * y - d * x) == 1) (tkN (u * y - v * x) == 1)), .bool (tkN (c * y - d * x) != tkN (u * y - v * x))]) ∧ Ext w w' := by
  have PT := Lib.hid (fun w => tacksOf_any x y a b c d n s p q u v m t w hx hy hc hd hu hv)
  generalize tkN (c * y - d * x) = i at *
  generalize tkN (u * y - v * x) = j at *
  clear hx hy hc hd hu hv
  have PO := Lib.hid (fun w => onlyOneOf_any (i == 1) (j == 1) w)
  obtain ⟨W0, hW0⟩ : ∃ W0, W0 = ((w.alloc (.cells #[.int .i64 x, .int .i64 y] 54)).alloc (.cells #[.int .i64 a, .int .i64 b, .int .i64 c, .int .i64 d, .int .i64 n, .bool s] 64)).alloc (.cells #[.int .i64 p, .int .i64 q, .int .i64 u, .int .i64 v, .int .i64 m, .bool t] 64) := ⟨_, rfl⟩
  have hX : Ext w W0 := hW0 ▸ ((((Ext.refl w).alloc _).alloc _).alloc _)
  have hs0 : W0.heap.size = w.heap.size + 1 + 1 + 1 := by rw [hW0]; simp
  have e00 : ∀ w', (Ext W0) w' → w'.cell? ⟨w.heap.size, 0, none⟩ = some (.int .i64 x) := fun w' h => h.cellOf (by rw [hW0]; exact (((Ext.refl _).alloc _).alloc _).cellOf (boxed 0 rfl (by simp)))
  have e01 : ∀ w', (Ext W0) w' → w'.cell? ⟨w.heap.size, 1, none⟩ = some (.int .i64 y) := fun w' h => h.cellOf (by rw [hW0]; exact (((Ext.refl _).alloc _).alloc _).cellOf (boxed 1 rfl (by simp)))
  have e10 : ∀ w', (Ext W0) w' → w'.cell? ⟨w.heap.size + 1, 0, none⟩ = some (.int .i64 a) := fun w' h => h.cellOf (by rw [hW0]; exact ((Ext.refl _).alloc _).cellOf (boxed 0 rfl (by simp)))
  have e11 : ∀ w', (Ext W0) w' → w'.cell? ⟨w.heap.size + 1, 1, none⟩ = some (.int .i64 b) := fun w' h => h.cellOf (by rw [hW0]; exact ((Ext.refl _).alloc _).cellOf (boxed 1 rfl (by simp)))
  have e12 : ∀ w', (Ext W0) w' → w'.cell? ⟨w.heap.size + 1, 2, none⟩ = some (.int .i64 c) := fun w' h => h.cellOf (by rw [hW0]; exact ((Ext.refl _).alloc _).cellOf (boxed 2 rfl (by simp)))
  have e13 : ∀ w', (Ext W0) w' → w'.cell? ⟨w.heap.size + 1, 3, none⟩ = some (.int .i64 d) := fun w' h => h.cellOf (by rw [hW0]; exact ((Ext.refl _).alloc _).cellOf (boxed 3 rfl (by simp)))
  have e14 : ∀ w', (Ext W0) w' → w'.cell? ⟨w.heap.size + 1, 4, none⟩ = some (.int .i64 n) := fun w' h => h.cellOf (by rw [hW0]; exact ((Ext.refl _).alloc _).cellOf (boxed 4 rfl (by simp)))
  have e15 : ∀ w', (Ext W0) w' → w'.cell? ⟨w.heap.size + 1, 5, none⟩ = some (.bool s) := fun w' h => h.cellOf (by rw [hW0]; exact ((Ext.refl _).alloc _).cellOf (boxed 5 rfl (by simp)))
  have e20 : ∀ w', (Ext W0) w' → w'.cell? ⟨w.heap.size + 1 + 1, 0, none⟩ = some (.int .i64 p) := fun w' h => h.cellOf (by rw [hW0]; exact boxed 0 rfl (by simp))
  have e21 : ∀ w', (Ext W0) w' → w'.cell? ⟨w.heap.size + 1 + 1, 1, none⟩ = some (.int .i64 q) := fun w' h => h.cellOf (by rw [hW0]; exact boxed 1 rfl (by simp))
  have e22 : ∀ w', (Ext W0) w' → w'.cell? ⟨w.heap.size + 1 + 1, 2, none⟩ = some (.int .i64 u) := fun w' h => h.cellOf (by rw [hW0]; exact boxed 2 rfl (by simp))
  have e23 : ∀ w', (Ext W0) w' → w'.cell? ⟨w.heap.size + 1 + 1, 3, none⟩ = some (.int .i64 v) := fun w' h => h.cellOf (by rw [hW0]; exact boxed 3 rfl (by simp))
  have e24 : ∀ w', (Ext W0) w' → w'.cell? ⟨w.heap.size + 1 + 1, 4, none⟩ = some (.int .i64 m) := fun w' h => h.cellOf (by rw [hW0]; exact boxed 4 rfl (by simp))
  have e25 : ∀ w', (Ext W0) w' → w'.cell? ⟨w.heap.size + 1 + 1, 5, none⟩ = some (.bool t) := fun w' h => h.cellOf (by rw [hW0]; exact boxed 5 rfl (by simp))
  go_enter Tryz.func227, Tryz.ntmps227
  go_wp2_with fail
  rw [← hW0]
  clear hW0
  refine (PT.out _).mono ?_
  rintro e w1 ⟨rfl, hz⟩
  replace hz : Ext W0 w1 := hz
  go_wp2_with fail
  refine (PO.out _).mono ?_
  rintro e w2 ⟨rfl, rfl⟩
  go_wp2
  go_ret2
  exact ⟨rfl, hX.trans hz⟩
def asK (o : Int) : Int := if o = 1 then 2 else if o = 2 then 1 else 0
def asB (o : Int) : Bool := if o = 0 then false else true
set_option maxHeartbeats 1000000 in
theorem judgeAstern_any (x y a b c d n : Int) (s : Bool) (p q u v m : Int) (t : Bool) (w : World) (h : hlB a b c d n = true) (g : hlB p q u v m = true) :
    Calls Tryz.prog 228 #[Pt x y, Bo a b c d n s, Bo p q u v m t] w fun e w' => e = .returned (.tuple #[.int .i64 (asK (ovN (caB a b c d n p q) (caB p q u v m a b))), .bool (asB (ovN (caB a b c d n p q) (caB p q u v m a b)))]) ∧ Ext w w' := by
  have PR := Lib.hid (fun w => relationTo_any a b c d n p q u v m w h g)
  have hO := ovN_cases (caB a b c d n p q) (caB p q u v m a b)
  generalize ovN (caB a b c d n p q) (caB p q u v m a b) = O at *
  clear h g
  obtain ⟨W0, hW0⟩ : ∃ W0, W0 = ((w.alloc (.cells #[.int .i64 x, .int .i64 y] 54)).alloc (.cells #[.int .i64 a, .int .i64 b, .int .i64 c, .int .i64 d, .int .i64 n, .bool s] 64)).alloc (.cells #[.int .i64 p, .int .i64 q, .int .i64 u, .int .i64 v, .int .i64 m, .bool t] 64) := ⟨_, rfl⟩
  have hX : Ext w W0 := hW0 ▸ ((((Ext.refl w).alloc _).alloc _).alloc _)
  have hs0 : W0.heap.size = w.heap.size + 1 + 1 + 1 := by rw [hW0]; simp
  have e00 : ∀ w', (Ext W0) w' → w'.cell? ⟨w.heap.size, 0, none⟩ = some (.int .i64 x) := fun w' h => h.cellOf (by rw [hW0]; exact (((Ext.refl _).alloc _).alloc _).cellOf (boxed 0 rfl (by simp)))
  have e01 : ∀ w', (Ext W0) w' → w'.cell? ⟨w.heap.size, 1, none⟩ = some (.int .i64 y) := fun w' h => h.cellOf (by rw [hW0]; exact (((Ext.refl _).alloc _).alloc _).cellOf (boxed 1 rfl (by simp)))
  have e10 : ∀ w', (Ext W0) w' → w'.cell? ⟨w.heap.size + 1, 0, none⟩ = some (.int .i64 a) := fun w' h => h.cellOf (by rw [hW0]; exact ((Ext.refl _).alloc _).cellOf (boxed 0 rfl (by simp)))
  have e11 : ∀ w', (Ext W0) w' → w'.cell? ⟨w.heap.size + 1, 1, none⟩ = some (.int .i64 b) := fun w' h => h.cellOf (by rw [hW0]; exact ((Ext.refl _).alloc _).cellOf (boxed 1 rfl (by simp)))
  have e12 : ∀ w', (Ext W0) w' → w'.cell? ⟨w.heap.size + 1, 2, none⟩ = some (.int .i64 c) := fun w' h => h.cellOf (by rw [hW0]; exact ((Ext.refl _).alloc _).cellOf (boxed 2 rfl (by simp)))
  have e13 : ∀ w', (Ext W0) w' → w'.cell? ⟨w.heap.size + 1, 3, none⟩ = some (.int .i64 d) := fun w' h => h.cellOf (by rw [hW0]; exact ((Ext.refl _).alloc _).cellOf (boxed 3 rfl (by simp)))
  have e14 : ∀ w', (Ext W0) w' → w'.cell? ⟨w.heap.size + 1, 4, none⟩ = some (.int .i64 n) := fun w' h => h.cellOf (by rw [hW0]; exact ((Ext.refl _).alloc _).cellOf (boxed 4 rfl (by simp)))
  have e15 : ∀ w', (Ext W0) w' → w'.cell? ⟨w.heap.size + 1, 5, none⟩ = some (.bool s) := fun w' h => h.cellOf (by rw [hW0]; exact ((Ext.refl _).alloc _).cellOf (boxed 5 rfl (by simp)))
  have e20 : ∀ w', (Ext W0) w' → w'.cell? ⟨w.heap.size + 1 + 1, 0, none⟩ = some (.int .i64 p) := fun w' h => h.cellOf (by rw [hW0]; exact boxed 0 rfl (by simp))
  have e21 : ∀ w', (Ext W0) w' → w'.cell? ⟨w.heap.size + 1 + 1, 1, none⟩ = some (.int .i64 q) := fun w' h => h.cellOf (by rw [hW0]; exact boxed 1 rfl (by simp))
  have e22 : ∀ w', (Ext W0) w' → w'.cell? ⟨w.heap.size + 1 + 1, 2, none⟩ = some (.int .i64 u) := fun w' h => h.cellOf (by rw [hW0]; exact boxed 2 rfl (by simp))
  have e23 : ∀ w', (Ext W0) w' → w'.cell? ⟨w.heap.size + 1 + 1, 3, none⟩ = some (.int .i64 v) := fun w' h => h.cellOf (by rw [hW0]; exact boxed 3 rfl (by simp))
  have e24 : ∀ w', (Ext W0) w' → w'.cell? ⟨w.heap.size + 1 + 1, 4, none⟩ = some (.int .i64 m) := fun w' h => h.cellOf (by rw [hW0]; exact boxed 4 rfl (by simp))
  have e25 : ∀ w', (Ext W0) w' → w'.cell? ⟨w.heap.size + 1 + 1, 5, none⟩ = some (.bool t) := fun w' h => h.cellOf (by rw [hW0]; exact boxed 5 rfl (by simp))
  go_enter Tryz.func228, Tryz.ntmps228
  go_wp2_with fail
  rw [← hW0]
  clear hW0
  refine (PR.out _).mono ?_
  rintro e w1 ⟨rfl, hz⟩
  replace hz : Ext W0 w1 := hz
  clear PR
  rcases hO with rfl | rfl | rfl | rfl
  all_goals
    go_wp2
    go_ret2
    exact ⟨rfl, hX.trans hz⟩
set_option maxHeartbeats 1000000 in
theorem judgeWindward_any (x y a b c d n : Int) (s : Bool) (p q u v m : Int) (t : Bool) (w : World) (hx : -1000 ≤ x ∧ x ≤ 1000) (hy : -1000 ≤ y ∧ y ≤ 1000) (ha : Co a) (hb : Co b) (hp : Co p) (hq : Co q) :
    Calls Tryz.prog 229 #[Pt x y, Bo a b c d n s, Bo p q u v m t] w fun e w' => e = .returned (.tuple #[.int .i64 (wwN (a * x + b * y) (p * x + q * y)), .bool true]) ∧ Ext w w' := by
  have PW := Lib.hid (fun w => windwardHull_any x y a b c d n p q u v m w hx hy ha hb hp hq)
  generalize wwN (a * x + b * y) (p * x + q * y) = K at *
  clear hx hy ha hb hp hq
  obtain ⟨W0, hW0⟩ : ∃ W0, W0 = ((w.alloc (.cells #[.int .i64 x, .int .i64 y] 54)).alloc (.cells #[.int .i64 a, .int .i64 b, .int .i64 c, .int .i64 d, .int .i64 n, .bool s] 64)).alloc (.cells #[.int .i64 p, .int .i64 q, .int .i64 u, .int .i64 v, .int .i64 m, .bool t] 64) := ⟨_, rfl⟩
  have hX : Ext w W0 := hW0 ▸ ((((Ext.refl w).alloc _).alloc _).alloc _)
  have hs0 : W0.heap.size = w.heap.size + 1 + 1 + 1 := by rw [hW0]; simp
  have e00 : ∀ w', (Ext W0) w' → w'.cell? ⟨w.heap.size, 0, none⟩ = some (.int .i64 x) := fun w' h => h.cellOf (by rw [hW0]; exact (((Ext.refl _).alloc _).alloc _).cellOf (boxed 0 rfl (by simp)))
  have e01 : ∀ w', (Ext W0) w' → w'.cell? ⟨w.heap.size, 1, none⟩ = some (.int .i64 y) := fun w' h => h.cellOf (by rw [hW0]; exact (((Ext.refl _).alloc _).alloc _).cellOf (boxed 1 rfl (by simp)))
  have e10 : ∀ w', (Ext W0) w' → w'.cell? ⟨w.heap.size + 1, 0, none⟩ = some (.int .i64 a) := fun w' h => h.cellOf (by rw [hW0]; exact ((Ext.refl _).alloc _).cellOf (boxed 0 rfl (by simp)))
  have e11 : ∀ w', (Ext W0) w' → w'.cell? ⟨w.heap.size + 1, 1, none⟩ = some (.int .i64 b) := fun w' h => h.cellOf (by rw [hW0]; exact ((Ext.refl _).alloc _).cellOf (boxed 1 rfl (by simp)))
  have e12 : ∀ w', (Ext W0) w' → w'.cell? ⟨w.heap.size + 1, 2, none⟩ = some (.int .i64 c) := fun w' h => h.cellOf (by rw [hW0]; exact ((Ext.refl _).alloc _).cellOf (boxed 2 rfl (by simp)))
  have e13 : ∀ w', (Ext W0) w' → w'.cell? ⟨w.heap.size + 1, 3, none⟩ = some (.int .i64 d) := fun w' h => h.cellOf (by rw [hW0]; exact ((Ext.refl _).alloc _).cellOf (boxed 3 rfl (by simp)))
  have e14 : ∀ w', (Ext W0) w' → w'.cell? ⟨w.heap.size + 1, 4, none⟩ = some (.int .i64 n) := fun w' h => h.cellOf (by rw [hW0]; exact ((Ext.refl _).alloc _).cellOf (boxed 4 rfl (by simp)))
  have e15 : ∀ w', (Ext W0) w' → w'.cell? ⟨w.heap.size + 1, 5, none⟩ = some (.bool s) := fun w' h => h.cellOf (by rw [hW0]; exact ((Ext.refl _).alloc _).cellOf (boxed 5 rfl (by simp)))
  have e20 : ∀ w', (Ext W0) w' → w'.cell? ⟨w.heap.size + 1 + 1, 0, none⟩ = some (.int .i64 p) := fun w' h => h.cellOf (by rw [hW0]; exact boxed 0 rfl (by simp))
  have e21 : ∀ w', (Ext W0) w' → w'.cell? ⟨w.heap.size + 1 + 1, 1, none⟩ = some (.int .i64 q) := fun w' h => h.cellOf (by rw [hW0]; exact boxed 1 rfl (by simp))
  have e22 : ∀ w', (Ext W0) w' → w'.cell? ⟨w.heap.size + 1 + 1, 2, none⟩ = some (.int .i64 u) := fun w' h => h.cellOf (by rw [hW0]; exact boxed 2 rfl (by simp))
  have e23 : ∀ w', (Ext W0) w' → w'.cell? ⟨w.heap.size + 1 + 1, 3, none⟩ = some (.int .i64 v) := fun w' h => h.cellOf (by rw [hW0]; exact boxed 3 rfl (by simp))
  have e24 : ∀ w', (Ext W0) w' → w'.cell? ⟨w.heap.size + 1 + 1, 4, none⟩ = some (.int .i64 m) := fun w' h => h.cellOf (by rw [hW0]; exact boxed 4 rfl (by simp))
  have e25 : ∀ w', (Ext W0) w' → w'.cell? ⟨w.heap.size + 1 + 1, 5, none⟩ = some (.bool t) := fun w' h => h.cellOf (by rw [hW0]; exact boxed 5 rfl (by simp))
  go_enter Tryz.func229, Tryz.ntmps229
  go_wp2_with fail
  rw [← hW0]
  clear hW0
  refine (PW.out _).mono ?_
  rintro e w1 ⟨rfl, hz⟩
  go_wp2
  go_ret2
  exact ⟨rfl, hX.trans hz⟩
end Go.Proofs.YtmlojndkpnhalaaGreat.Rul
namespace Go.Proofs.YtmlojndkpnhalaaGreat.Rul
open Go.ChangeShapes Go.WideShapes Go.ChangeAt Go.RowKit
open Go.Proofs.YtmlojndkpnhalaaGreat.Num Go.Proofs.YtmlojndkpnhalaaGreat.Kit Go.Proofs.YtmlojndkpnhalaaGreat.Pts Go.Proofs.YtmlojndkpnhalaaGreat.Seg Go.Proofs.YtmlojndkpnhalaaGreat.Wnd Go.Proofs.YtmlojndkpnhalaaGreat.Hul
set_option linter.unusedVariables false
set_option linter.unusedSimpArgs false
abbrev rulesV : Value := .agg #[.int .i64 1, Fv 225, .int .i64 5, Fv 226, .int .i64 2, Fv 227, .int .i64 3, Fv 228, .int .i64 4, Fv 229]
theorem rules_any (w : World) : Calls Tryz.prog 170 #[] w fun e w' => e = .returned rulesV ∧ Ext w w' := by
  go_enter Tryz.func170, Tryz.ntmps170
  go_wp2
  exact bodyPost_ret (v := rulesV) (by simp [results, Tryz.results170, go_sem]) rfl ⟨rfl, (by repeat (first | exact Ext.refl _ | assumption | apply Ext.alloc | apply Ext.drew | (refine Ext.trans ?_ (by assumption)) | (refine Ext.setNew ?_ (by simp <;> omega) _)))⟩
theorem jx0 (w : World) : (Instr.index 241 rulesV (.int .i64 0)).run Tryz.prog w = .ok (.agg #[.int .i64 1, Fv 225]) w := by
  simp [Instr.index, run_underlying Tryz.underlying241, asIntOf, go_sem]
theorem jx1 (w : World) : (Instr.index 241 rulesV (.int .i64 1)).run Tryz.prog w = .ok (.agg #[.int .i64 5, Fv 226]) w := by
  simp [Instr.index, run_underlying Tryz.underlying241, asIntOf, go_sem]
theorem jx2 (w : World) : (Instr.index 241 rulesV (.int .i64 2)).run Tryz.prog w = .ok (.agg #[.int .i64 2, Fv 227]) w := by
  simp [Instr.index, run_underlying Tryz.underlying241, asIntOf, go_sem]
theorem jx3 (w : World) : (Instr.index 241 rulesV (.int .i64 3)).run Tryz.prog w = .ok (.agg #[.int .i64 3, Fv 228]) w := by
  simp [Instr.index, run_underlying Tryz.underlying241, asIntOf, go_sem]
theorem jx4 (w : World) : (Instr.index 241 rulesV (.int .i64 4)).run Tryz.prog w = .ok (.agg #[.int .i64 4, Fv 229]) w := by
  simp [Instr.index, run_underlying Tryz.underlying241, asIntOf, go_sem]
theorem oo_opp {i j : Int} (hi : i = 0 ∨ i = 1 ∨ i = 2) (hj : j = 0 ∨ j = 1 ∨ j = 2) (g : ((i == 0) || (j == 0)) = false) (h : (i != j) = true) : ooN (i == 1) (j == 1) = (if i = 1 then 1 else 2) ∧ ooN (i == 1) (j == 1) ≠ 0 := by
  rcases hi with rfl | rfl | rfl <;> rcases hj with rfl | rfl | rfl
  all_goals first
  | (exfalso; revert g; decide)
  | (exfalso; revert h; decide)
  | decide
def RelRu (V : World) (s t : Bool) (i j o : Int) (z : Value) (wr : World) : Prop :=
  (z = .int .i64 0 ∨ (z = .int .i64 1 ∧ (s || t) = false) ∨ (z = .int .i64 2 ∧ (s || t) = false ∧ ((i == 0) || (j == 0)) = false) ∨ (z = .int .i64 3 ∧ (s || t) = false ∧ ((i == 0) || (j == 0)) = false ∧ (i != j) = false) ∨
    (z = .int .i64 4 ∧ (s || t) = false ∧ ((i == 0) || (j == 0)) = false ∧ (i != j) = false ∧ o = 0)) ∧ Ext V wr
theorem ru_done {n : Nat} {w F : World} {tmps : Array Value} {a b : Int} (B : Box F n [.int .i64 a, .int .i64 b]) (hC : Ext w F) (h6 : tmps[6]? = some (.pointer (some ⟨n, 0, none⟩))) (X Y : Int) (hX : X = a) (hY : Y = b) :
    bodyPost Tryz.prog Tryz.f94 (fun e w' => e = .returned (Pt X Y) ∧ Ext w w') Exit.ret ⟨tmps, []⟩ F := by
  subst hX; subst hY
  obtain ⟨⟨g0, g1⟩, _⟩ := B.two
  exact bodyPost_ret (v := Pt X Y) (by simp [results, Tryz.results94, go_sem, h6, g0, g1]) rfl ⟨rfl, hC⟩
set_option maxRecDepth 100000 in
set_option maxHeartbeats 8000000 in
theorem rulingOn_any (x y a b c d n : Int) (s : Bool) (p q u v m : Int) (t : Bool) (w : World) (hw : wdB x y = true) (h : hlB a b c d n = true) (g : hlB p q u v m = true) :
    Calls Tryz.prog 94 #[Pt x y, Bo a b c d n s, Bo p q u v m t] w fun e w' => e = .returned (Pt (ruK x y a b c d n s p q u v m t) (ruR x y a b c d n s p q u v m t)) ∧ Ext w w' := by
  obtain ⟨x1, y1, _⟩ := wdB_yes hw
  obtain ⟨⟨ha, hb⟩, ⟨hc, hd, _⟩, _⟩ := hlB_yes h
  obtain ⟨⟨hp, hq⟩, ⟨hu, hv, _⟩, _⟩ := hlB_yes g
  have P0 := Lib.hid (fun w => judgeTurning_any x y a b c d n s p q u v m t w)
  have P1 := Lib.hid (fun w => judgeNoTack_any x y a b c d n s p q u v m t w x1 y1 hc hd hu hv)
  have P2 := Lib.hid (fun w => judgeOpposite_any x y a b c d n s p q u v m t w x1 y1 hc hd hu hv)
  have P3 := Lib.hid (fun w => judgeAstern_any x y a b c d n s p q u v m t w h g)
  have P4 := Lib.hid (fun w => judgeWindward_any x y a b c d n s p q u v m t w x1 y1 ha hb hp hq)
  have hO := Lib.hid (ovN_cases (caB a b c d n p q) (caB p q u v m a b))
  have hT := Lib.hid (tk_cases (c * y - d * x))
  have hU := Lib.hid (tk_cases (u * y - v * x))
  unfold ruK ruR
  generalize tkN (c * y - d * x) = i at *
  generalize tkN (u * y - v * x) = j at *
  generalize ovN (caB a b c d n p q) (caB p q u v m a b) = o at *
  generalize wwN (a * x + b * y) (p * x + q * y) = k at *
  clear x1 y1 ha hb hc hd hp hq hu hv hw h g
  obtain ⟨W0, hW0⟩ : ∃ W0, W0 = ((((w.alloc (.cells #[.int .i64 x, .int .i64 y] 54)).alloc (.cells #[.int .i64 a, .int .i64 b, .int .i64 c, .int .i64 d, .int .i64 n, .bool s] 64)).alloc (.cells #[.int .i64 p, .int .i64 q, .int .i64 u, .int .i64 v, .int .i64 m, .bool t] 64)).alloc (.cells #[.int .i64 0, .int .i64 0] 58)).alloc (.cells #[.int .i64 0, .int .i64 5] 58) := ⟨_, rfl⟩
  have hX : Ext w W0 := hW0 ▸ ((((((Ext.refl w).alloc _).alloc _).alloc _).alloc _).alloc _)
  have hs0 : W0.heap.size = w.heap.size + 1 + 1 + 1 + 1 + 1 := by rw [hW0]; simp
  have e00 : ∀ w', (Ext W0) w' → w'.cell? ⟨w.heap.size, 0, none⟩ = some (.int .i64 x) := fun w' h => h.cellOf (by rw [hW0]; exact (((((Ext.refl _).alloc _).alloc _).alloc _).alloc _).cellOf (boxed 0 rfl (by simp)))
  have e01 : ∀ w', (Ext W0) w' → w'.cell? ⟨w.heap.size, 1, none⟩ = some (.int .i64 y) := fun w' h => h.cellOf (by rw [hW0]; exact (((((Ext.refl _).alloc _).alloc _).alloc _).alloc _).cellOf (boxed 1 rfl (by simp)))
  have e10 : ∀ w', (Ext W0) w' → w'.cell? ⟨w.heap.size + 1, 0, none⟩ = some (.int .i64 a) := fun w' h => h.cellOf (by rw [hW0]; exact ((((Ext.refl _).alloc _).alloc _).alloc _).cellOf (boxed 0 rfl (by simp)))
  have e11 : ∀ w', (Ext W0) w' → w'.cell? ⟨w.heap.size + 1, 1, none⟩ = some (.int .i64 b) := fun w' h => h.cellOf (by rw [hW0]; exact ((((Ext.refl _).alloc _).alloc _).alloc _).cellOf (boxed 1 rfl (by simp)))
  have e12 : ∀ w', (Ext W0) w' → w'.cell? ⟨w.heap.size + 1, 2, none⟩ = some (.int .i64 c) := fun w' h => h.cellOf (by rw [hW0]; exact ((((Ext.refl _).alloc _).alloc _).alloc _).cellOf (boxed 2 rfl (by simp)))
  have e13 : ∀ w', (Ext W0) w' → w'.cell? ⟨w.heap.size + 1, 3, none⟩ = some (.int .i64 d) := fun w' h => h.cellOf (by rw [hW0]; exact ((((Ext.refl _).alloc _).alloc _).alloc _).cellOf (boxed 3 rfl (by simp)))
  have e14 : ∀ w', (Ext W0) w' → w'.cell? ⟨w.heap.size + 1, 4, none⟩ = some (.int .i64 n) := fun w' h => h.cellOf (by rw [hW0]; exact ((((Ext.refl _).alloc _).alloc _).alloc _).cellOf (boxed 4 rfl (by simp)))
  have e15 : ∀ w', (Ext W0) w' → w'.cell? ⟨w.heap.size + 1, 5, none⟩ = some (.bool s) := fun w' h => h.cellOf (by rw [hW0]; exact ((((Ext.refl _).alloc _).alloc _).alloc _).cellOf (boxed 5 rfl (by simp)))
  have e20 : ∀ w', (Ext W0) w' → w'.cell? ⟨w.heap.size + 1 + 1, 0, none⟩ = some (.int .i64 p) := fun w' h => h.cellOf (by rw [hW0]; exact (((Ext.refl _).alloc _).alloc _).cellOf (boxed 0 rfl (by simp)))
  have e21 : ∀ w', (Ext W0) w' → w'.cell? ⟨w.heap.size + 1 + 1, 1, none⟩ = some (.int .i64 q) := fun w' h => h.cellOf (by rw [hW0]; exact (((Ext.refl _).alloc _).alloc _).cellOf (boxed 1 rfl (by simp)))
  have e22 : ∀ w', (Ext W0) w' → w'.cell? ⟨w.heap.size + 1 + 1, 2, none⟩ = some (.int .i64 u) := fun w' h => h.cellOf (by rw [hW0]; exact (((Ext.refl _).alloc _).alloc _).cellOf (boxed 2 rfl (by simp)))
  have e23 : ∀ w', (Ext W0) w' → w'.cell? ⟨w.heap.size + 1 + 1, 3, none⟩ = some (.int .i64 v) := fun w' h => h.cellOf (by rw [hW0]; exact (((Ext.refl _).alloc _).alloc _).cellOf (boxed 3 rfl (by simp)))
  have e24 : ∀ w', (Ext W0) w' → w'.cell? ⟨w.heap.size + 1 + 1, 4, none⟩ = some (.int .i64 m) := fun w' h => h.cellOf (by rw [hW0]; exact (((Ext.refl _).alloc _).alloc _).cellOf (boxed 4 rfl (by simp)))
  have e25 : ∀ w', (Ext W0) w' → w'.cell? ⟨w.heap.size + 1 + 1, 5, none⟩ = some (.bool t) := fun w' h => h.cellOf (by rw [hW0]; exact (((Ext.refl _).alloc _).alloc _).cellOf (boxed 5 rfl (by simp)))
  have e30 : ∀ w', (Ext W0) w' → w'.cell? ⟨w.heap.size + 1 + 1 + 1, 0, none⟩ = some (.int .i64 0) := fun w' h => h.cellOf (by rw [hW0]; exact ((Ext.refl _).alloc _).cellOf (boxed 0 rfl (by simp)))
  have e31 : ∀ w', (Ext W0) w' → w'.cell? ⟨w.heap.size + 1 + 1 + 1, 1, none⟩ = some (.int .i64 0) := fun w' h => h.cellOf (by rw [hW0]; exact ((Ext.refl _).alloc _).cellOf (boxed 1 rfl (by simp)))
  have e40 : ∀ w', (Ext W0) w' → w'.cell? ⟨w.heap.size + 1 + 1 + 1 + 1, 0, none⟩ = some (.int .i64 0) := fun w' h => h.cellOf (by rw [hW0]; exact boxed 0 rfl (by simp))
  have e41 : ∀ w', (Ext W0) w' → w'.cell? ⟨w.heap.size + 1 + 1 + 1 + 1, 1, none⟩ = some (.int .i64 5) := fun w' h => h.cellOf (by rw [hW0]; exact boxed 1 rfl (by simp))
  have B4 := Lib.hid (show Box W0 (w.heap.size + 1 + 1 + 1 + 1) [.int .i64 0, .int .i64 5] from hW0 ▸ Box.new2 (by simp))
  have B3 := Lib.hid (show Box W0 (w.heap.size + 1 + 1 + 1) [.int .i64 0, .int .i64 0] from hW0 ▸ (Box.new2 (by simp)).alloc _)
  go_enter Tryz.func94, Tryz.ntmps94
  go_wp2
  go_step3
  go_wp2
  go_step3
  go_wp2_with fail
  rw [← hW0]
  clear hW0
  refine (rules_any _).mono ?_
  rintro e w1 ⟨rfl, hz⟩
  replace hz : Ext W0 w1 := hz
  go_wp2_with fail
  go_loopw [14] (fun z wr => RelRu w1 s t i j o z wr) (fun z _ => 5 - (intOf z).toNat)
  case atStart => exact ⟨.inl rfl, Ext.refl _⟩
  case round =>
    obtain ⟨hi, hx⟩ := hrel
    have HX := Lib.hid (hz.trans hx)
    have HX1 := Lib.hid hx
    clear hx
    have f00 := on1 (e00 wr HX.out); have f01 := on1 (e01 wr HX.out)
    have f10 := on1 (e10 wr HX.out); have f11 := on1 (e11 wr HX.out); have f12 := on1 (e12 wr HX.out); have f13 := on1 (e13 wr HX.out); have f14 := on1 (e14 wr HX.out); have f15 := on1 (e15 wr HX.out)
    have f20 := on1 (e20 wr HX.out); have f21 := on1 (e21 wr HX.out); have f22 := on1 (e22 wr HX.out); have f23 := on1 (e23 wr HX.out); have f24 := on1 (e24 wr HX.out); have f25 := on1 (e25 wr HX.out)
    rcases hi with rfl | ⟨rfl, g0⟩ | ⟨rfl, g0, g1⟩ | ⟨rfl, g0, g1, g2⟩ | ⟨rfl, g0, g1, g2, g3⟩
    · have hI := jx0
      have HT := Lib.hid (fun h => rl_turn (s := s) (t := t) (i := i) (j := j) (o := o) (k := k) h)
      generalize ooN s t = K at P0 HT
      cases hA : (s || t)
      · rw [hA] at P0
        go_wp2_with fail
        refine (P0.out _).mono ?_
        rintro e w4 ⟨rfl, hy⟩
        replace HX := Lib.hid (HX1.out.trans ((Ext.refl wr).alloc (.cells #[.int .i64 1, Fv 225] 240) |>.trans hy))
        clear hy f00 f01 f10 f11 f12 f13 f14 f15 f20 f21 f22 f23 f24 f25 hI
        go_wp2
        go_roundw
        case rel => exact ⟨.inr (.inl ⟨rfl, hA⟩), HX.out⟩
        case measure => simp [intOf]
      · rw [hA] at P0
        go_wp2_with fail
        refine (P0.out _).mono ?_
        rintro e w4 ⟨rfl, hy⟩
        have c0 : ∀ v, (wr.alloc (.cells #[.int .i64 1, Fv 225] 240)).cell? ⟨wr.heap.size, 0, none⟩ = some v → w4.cell? ⟨wr.heap.size, 0, none⟩ = some v := fun v h => hy.cellOf h
        replace c0 := c0 _ (boxed 0 rfl rfl)
        replace HX := Lib.hid (hz.trans (HX1.out.trans ((Ext.refl wr).alloc (.cells #[.int .i64 1, Fv 225] 240) |>.trans hy)))
        clear hy f00 f01 f10 f11 f12 f13 f14 f15 f20 f21 f22 f23 f24 f25 hI
        by_cases hk : K = 0
        · have HK := Lib.hid (show rlK s t i j o k = 0 from (HT.out hA).1.trans hk)
          have HR := Lib.hid (show rlR s t i j o k = 5 from (HT.out hA).2.trans (if_pos hk))
          have kz : (K == 0) = true := beq_iff_eq.2 hk
          clear hk
          obtain ⟨⟨r0, r1⟩, r2, r3⟩ := (B3.out.ext HX.out).two
          obtain ⟨⟨q0, q1⟩, q2, q3⟩ := (B4.out.ext HX.out).two
          go_wp2
          exact ru_done (B3.out.ext HX.out).set2 (((hX.trans HX.out).setNew (by simp; omega) _).setNew (by simp; omega) _) rfl _ _ (HK.out) (HR.out)
        · have HK := Lib.hid (show rlK s t i j o k = K from (HT.out hA).1)
          have HR := Lib.hid (show rlR s t i j o k = 1 from (HT.out hA).2.trans (if_neg hk))
          have kz : (K == 0) = false := beq_eq_false_iff_ne.2 hk
          clear hk
          obtain ⟨⟨r0, r1⟩, r2, r3⟩ := (B3.out.ext HX.out).two
          obtain ⟨⟨q0, q1⟩, q2, q3⟩ := (B4.out.ext HX.out).two
          have BR := Lib.hid (fun (K R : Int) => ((B3.out.ext HX.out).away2 (m := w.heap.size + 1 + 1 + 1 + 1) (i := 0) (j := 1) (u := .int .i64 K) (v := .int .i64 R) (by omega)).set2 (u := .int .i64 K) (v := .int .i64 R))
          go_wp2
          exact ru_done (BR.out _ _) (((((hX.trans HX.out).setNew (by simp; omega) _).setNew (by simp; omega) _).setNew (by simp; omega) _).setNew (by simp; omega) _) rfl _ _ (HK.out) (HR.out)
    · have hI := jx1
      have HT := Lib.hid (fun h => rl_none (i := i) (j := j) (o := o) (k := k) g0 h)
      cases hA : ((i == 0) || (j == 0))
      · rw [hA] at P1
        go_wp2_with fail
        refine (P1.out _).mono ?_
        rintro e w4 ⟨rfl, hy⟩
        replace HX := Lib.hid (HX1.out.trans ((Ext.refl wr).alloc (.cells #[.int .i64 5, Fv 226] 240) |>.trans hy))
        clear hy f00 f01 f10 f11 f12 f13 f14 f15 f20 f21 f22 f23 f24 f25 hI
        go_wp2
        go_roundw
        case rel => exact ⟨.inr (.inr (.inl ⟨rfl, g0, hA⟩)), HX.out⟩
        case measure => simp [intOf]
      · rw [hA] at P1
        go_wp2_with fail
        refine (P1.out _).mono ?_
        rintro e w4 ⟨rfl, hy⟩
        replace HX := Lib.hid (hz.trans (HX1.out.trans ((Ext.refl wr).alloc (.cells #[.int .i64 5, Fv 226] 240) |>.trans hy)))
        clear hy f00 f01 f10 f11 f12 f13 f14 f15 f20 f21 f22 f23 f24 f25 hI
        obtain ⟨⟨r0, r1⟩, r2, r3⟩ := (B3.out.ext HX.out).two
        obtain ⟨⟨q0, q1⟩, q2, q3⟩ := (B4.out.ext HX.out).two
        go_wp2
        exact ru_done (B3.out.ext HX.out).set2 (((hX.trans HX.out).setNew (by simp; omega) _).setNew (by simp; omega) _) rfl _ _ ((HT.out hA).1) ((HT.out hA).2)
    · have hI := jx2
      have HT := Lib.hid (fun h => rl_opp (o := o) (k := k) g0 g1 h)
      have HO2 := Lib.hid (fun h => oo_opp hT.out hU.out g1 h)
      generalize ooN (i == 1) (j == 1) = K at P2 HO2
      cases hA : (i != j)
      · rw [hA] at P2
        go_wp2_with fail
        refine (P2.out _).mono ?_
        rintro e w4 ⟨rfl, hy⟩
        replace HX := Lib.hid (HX1.out.trans ((Ext.refl wr).alloc (.cells #[.int .i64 2, Fv 227] 240) |>.trans hy))
        clear hy f00 f01 f10 f11 f12 f13 f14 f15 f20 f21 f22 f23 f24 f25 hI
        go_wp2
        go_roundw
        case rel => exact ⟨.inr (.inr (.inr (.inl ⟨rfl, g0, g1, hA⟩))), HX.out⟩
        case measure => simp [intOf]
      · rw [hA] at P2
        have HK := Lib.hid ((HT.out hA).1.trans (HO2.out hA).1.symm)
        have HR := Lib.hid (HT.out hA).2
        have kz : (K == 0) = false := beq_eq_false_iff_ne.2 (HO2.out hA).2
        go_wp2_with fail
        refine (P2.out _).mono ?_
        rintro e w4 ⟨rfl, hy⟩
        have c0 : w4.cell? ⟨wr.heap.size, 0, none⟩ = some (.int .i64 2) := hy.cellOf (boxed 0 rfl rfl)
        replace HX := Lib.hid (hz.trans (HX1.out.trans ((Ext.refl wr).alloc (.cells #[.int .i64 2, Fv 227] 240) |>.trans hy)))
        clear hy f00 f01 f10 f11 f12 f13 f14 f15 f20 f21 f22 f23 f24 f25 hI
        obtain ⟨⟨r0, r1⟩, r2, r3⟩ := (B3.out.ext HX.out).two
        obtain ⟨⟨q0, q1⟩, q2, q3⟩ := (B4.out.ext HX.out).two
        have BR := Lib.hid (fun (K R : Int) => ((B3.out.ext HX.out).away2 (m := w.heap.size + 1 + 1 + 1 + 1) (i := 0) (j := 1) (u := .int .i64 K) (v := .int .i64 R) (by omega)).set2 (u := .int .i64 K) (v := .int .i64 R))
        go_wp2
        exact ru_done (BR.out _ _) (((((hX.trans HX.out).setNew (by simp; omega) _).setNew (by simp; omega) _).setNew (by simp; omega) _).setNew (by simp; omega) _) rfl _ _ (HK.out) (HR.out)
    · have hI := jx3
      have HA1 := Lib.hid (fun e => rl_astern (k := k) (o := o) g0 g1 g2 e)
      have HA2 := Lib.hid (fun e => rl_ahead (k := k) (o := o) g0 g1 g2 e)
      have HA3 := Lib.hid (fun e => rl_apart (k := k) (o := o) g0 g1 g2 e)
      go_wp2_with fail
      refine (P3.out _).mono ?_
      rintro e w4 ⟨rfl, hy⟩
      have c0 : w4.cell? ⟨wr.heap.size, 0, none⟩ = some (.int .i64 3) := hy.cellOf (boxed 0 rfl rfl)
      have HX2 := Lib.hid (HX1.out.trans ((Ext.refl wr).alloc (.cells #[.int .i64 3, Fv 228] 240) |>.trans hy))
      replace HX := Lib.hid (hz.trans HX2.out)
      clear hy f00 f01 f10 f11 f12 f13 f14 f15 f20 f21 f22 f23 f24 f25 hI
      rcases hO.out with h0 | h0 | h0 | h0
      · have e1 : asK o = 0 := by rw [h0]; rfl
        have e2 : asB o = false := by rw [h0]; rfl
        rw [e1, e2]
        go_wp2
        go_roundw
        case rel => exact ⟨.inr (.inr (.inr (.inr ⟨rfl, g0, g1, g2, h0⟩))), HX2.out⟩
        case measure => simp [intOf]
      · have e1 : asK o = 2 := by rw [h0]; rfl
        have e2 : asB o = true := by rw [h0]; rfl
        rw [e1, e2]
        have HK := Lib.hid (HA1.out h0).1
        have HR := Lib.hid (HA1.out h0).2
        clear e1 e2
        obtain ⟨⟨r0, r1⟩, r2, r3⟩ := (B3.out.ext HX.out).two
        obtain ⟨⟨q0, q1⟩, q2, q3⟩ := (B4.out.ext HX.out).two
        have BR := Lib.hid (fun (K R : Int) => ((B3.out.ext HX.out).away2 (m := w.heap.size + 1 + 1 + 1 + 1) (i := 0) (j := 1) (u := .int .i64 K) (v := .int .i64 R) (by omega)).set2 (u := .int .i64 K) (v := .int .i64 R))
        go_wp2
        exact ru_done (BR.out _ _) (((((hX.trans HX.out).setNew (by simp; omega) _).setNew (by simp; omega) _).setNew (by simp; omega) _).setNew (by simp; omega) _) rfl _ _ (HK.out) (HR.out)
      · have e1 : asK o = 1 := by rw [h0]; rfl
        have e2 : asB o = true := by rw [h0]; rfl
        rw [e1, e2]
        have HK := Lib.hid (HA2.out h0).1
        have HR := Lib.hid (HA2.out h0).2
        clear e1 e2
        obtain ⟨⟨r0, r1⟩, r2, r3⟩ := (B3.out.ext HX.out).two
        obtain ⟨⟨q0, q1⟩, q2, q3⟩ := (B4.out.ext HX.out).two
        have BR := Lib.hid (fun (K R : Int) => ((B3.out.ext HX.out).away2 (m := w.heap.size + 1 + 1 + 1 + 1) (i := 0) (j := 1) (u := .int .i64 K) (v := .int .i64 R) (by omega)).set2 (u := .int .i64 K) (v := .int .i64 R))
        go_wp2
        exact ru_done (BR.out _ _) (((((hX.trans HX.out).setNew (by simp; omega) _).setNew (by simp; omega) _).setNew (by simp; omega) _).setNew (by simp; omega) _) rfl _ _ (HK.out) (HR.out)
      · have e1 : asK o = 0 := by rw [h0]; rfl
        have e2 : asB o = true := by rw [h0]; rfl
        rw [e1, e2]
        have HK := Lib.hid (HA3.out h0).1
        have HR := Lib.hid (HA3.out h0).2
        clear e1 e2
        obtain ⟨⟨r0, r1⟩, r2, r3⟩ := (B3.out.ext HX.out).two
        obtain ⟨⟨q0, q1⟩, q2, q3⟩ := (B4.out.ext HX.out).two
        go_wp2
        exact ru_done (B3.out.ext HX.out).set2 (((hX.trans HX.out).setNew (by simp; omega) _).setNew (by simp; omega) _) rfl _ _ (HK.out) (HR.out)
    · have hI := jx4
      have HT := Lib.hid (rl_wind (k := k) g0 g1 g2 g3)
      go_wp2_with fail
      refine (P4.out _).mono ?_
      rintro e w4 ⟨rfl, hy⟩
      have c0 : w4.cell? ⟨wr.heap.size, 0, none⟩ = some (.int .i64 4) := hy.cellOf (boxed 0 rfl rfl)
      replace HX := Lib.hid (hz.trans (HX1.out.trans ((Ext.refl wr).alloc (.cells #[.int .i64 4, Fv 229] 240) |>.trans hy)))
      clear hy f00 f01 f10 f11 f12 f13 f14 f15 f20 f21 f22 f23 f24 f25 hI
      by_cases hk : k = 0
      · have HK := Lib.hid (HT.out.1.trans hk)
        have HR := Lib.hid (HT.out.2.trans (if_pos hk))
        have kz : (k == 0) = true := beq_iff_eq.2 hk
        clear hk
        obtain ⟨⟨r0, r1⟩, r2, r3⟩ := (B3.out.ext HX.out).two
        obtain ⟨⟨q0, q1⟩, q2, q3⟩ := (B4.out.ext HX.out).two
        go_wp2
        exact ru_done (B3.out.ext HX.out).set2 (((hX.trans HX.out).setNew (by simp; omega) _).setNew (by simp; omega) _) rfl _ _ (HK.out) (HR.out)
      · have HK := Lib.hid HT.out.1
        have HR := Lib.hid (HT.out.2.trans (if_neg hk))
        have kz : (k == 0) = false := beq_eq_false_iff_ne.2 hk
        clear hk
        obtain ⟨⟨r0, r1⟩, r2, r3⟩ := (B3.out.ext HX.out).two
        obtain ⟨⟨q0, q1⟩, q2, q3⟩ := (B4.out.ext HX.out).two
        have BR := Lib.hid (fun (K R : Int) => ((B3.out.ext HX.out).away2 (m := w.heap.size + 1 + 1 + 1 + 1) (i := 0) (j := 1) (u := .int .i64 K) (v := .int .i64 R) (by omega)).set2 (u := .int .i64 K) (v := .int .i64 R))
        go_wp2
        exact ru_done (BR.out _ _) (((((hX.trans HX.out).setNew (by simp; omega) _).setNew (by simp; omega) _).setNew (by simp; omega) _).setNew (by simp; omega) _) rfl _ _ (HK.out) (HR.out)
end Go.Proofs.YtmlojndkpnhalaaGreat.Rul
namespace Go.Proofs.YtmlojndkpnhalaaGreat.Rul
open Go.ChangeShapes Go.WideShapes Go.ChangeAt Go.RowKit
open Go.Proofs.YtmlojndkpnhalaaGreat.Num Go.Proofs.YtmlojndkpnhalaaGreat.Kit Go.Proofs.YtmlojndkpnhalaaGreat.Pts Go.Proofs.YtmlojndkpnhalaaGreat.Seg Go.Proofs.YtmlojndkpnhalaaGreat.Wnd Go.Proofs.YtmlojndkpnhalaaGreat.Hul
set_option linter.unusedVariables false
set_option linter.unusedSimpArgs false
theorem unclear_any (w : World) : Calls Tryz.prog 154 #[] w fun e w' => e = .returned (Pt 0 5) ∧ Ext w w' := by
  go_enter Tryz.func154, Tryz.ntmps154
  go_wp2
  exact bodyPost_ret (v := Pt 0 5) (by simp [results, Tryz.results154, go_sem]) rfl ⟨rfl, (by repeat (first | exact Ext.refl _ | assumption | apply Ext.alloc | apply Ext.drew | (refine Ext.trans ?_ (by assumption)) | (refine Ext.setNew ?_ (by simp <;> omega) _)))⟩
theorem rs_done {n : Nat} {w F : World} {tmps : Array Value} {a b : Int} (B : Box F n [.int .i64 a, .int .i64 b]) (hC : Ext w F) (h6 : tmps[6]? = some (.pointer (some ⟨n, 0, none⟩))) (X Y : Int) (hX : X = a) (hY : Y = b) :
    bodyPost Tryz.prog Tryz.f89 (fun e w' => e = .returned (Pt X Y) ∧ Ext w w') Exit.ret ⟨tmps, []⟩ F := by
  subst hX; subst hY
  obtain ⟨⟨g0, g1⟩, _⟩ := B.two
  exact bodyPost_ret (v := Pt X Y) (by simp [results, Tryz.results89, go_sem, h6, g0, g1]) rfl ⟨rfl, hC⟩
set_option maxRecDepth 100000 in
set_option maxHeartbeats 8000000 in
theorem rule_spec (x y a b c d n : Int) (s : Bool) (p q u v m : Int) (t : Bool) (w : World) (hw : wdB x y = true) (h : hlB a b c d n = true) (g : hlB p q u v m = true) :
    Calls Tryz.prog 89 #[Pt x y, Bo a b c d n s, Bo p q u v m t] w fun e w' => e = .returned (Pt (ruK x y a b c d n s p q u v m t) (ruR x y a b c d n s p q u v m t)) ∧ Ext w w' := by
  obtain ⟨x1, y1, _⟩ := wdB_yes hw
  obtain ⟨⟨ha, hb⟩, ⟨hc, hd, _⟩, _⟩ := hlB_yes h
  obtain ⟨⟨hp, hq⟩, ⟨hu, hv, _⟩, _⟩ := hlB_yes g
  have P1 := Lib.hid (fun w => tackS_any x y c d w x1 y1 hc hd)
  have P2 := Lib.hid (fun w => tackS_any x y u v w x1 y1 hu hv)
  have P3 := Lib.hid (fun w => overlapS_any a b c d n p q u v m w h g)
  have P4 := Lib.hid (fun w => windwardS_any x y a b c d n p q u v m w x1 y1 ha hb hp hq)
  have hO := Lib.hid (ovN_cases (caB a b c d n p q) (caB p q u v m a b))
  have hT := Lib.hid (tk_cases (c * y - d * x))
  have hU := Lib.hid (tk_cases (u * y - v * x))
  unfold ruK ruR
  generalize tkN (c * y - d * x) = i at *
  generalize tkN (u * y - v * x) = j at *
  generalize ovN (caB a b c d n p q) (caB p q u v m a b) = o at *
  generalize wwN (a * x + b * y) (p * x + q * y) = k at *
  clear x1 y1 ha hb hc hd hp hq hu hv hw h g
  obtain ⟨W0, hW0⟩ : ∃ W0, W0 = (((w.alloc (.cells #[.int .i64 x, .int .i64 y] 54)).alloc (.cells #[.int .i64 a, .int .i64 b, .int .i64 c, .int .i64 d, .int .i64 n, .bool s] 64)).alloc (.cells #[.int .i64 p, .int .i64 q, .int .i64 u, .int .i64 v, .int .i64 m, .bool t] 64)).alloc (.cells #[.int .i64 0, .int .i64 0] 58) := ⟨_, rfl⟩
  have hX : Ext w W0 := hW0 ▸ (((((Ext.refl w).alloc _).alloc _).alloc _).alloc _)
  have hs0 : W0.heap.size = w.heap.size + 1 + 1 + 1 + 1 := by rw [hW0]; simp
  have e00 : ∀ w', (Ext W0) w' → w'.cell? ⟨w.heap.size, 0, none⟩ = some (.int .i64 x) := fun w' h => h.cellOf (by rw [hW0]; exact ((((Ext.refl _).alloc _).alloc _).alloc _).cellOf (boxed 0 rfl (by simp)))
  have e01 : ∀ w', (Ext W0) w' → w'.cell? ⟨w.heap.size, 1, none⟩ = some (.int .i64 y) := fun w' h => h.cellOf (by rw [hW0]; exact ((((Ext.refl _).alloc _).alloc _).alloc _).cellOf (boxed 1 rfl (by simp)))
  have e10 : ∀ w', (Ext W0) w' → w'.cell? ⟨w.heap.size + 1, 0, none⟩ = some (.int .i64 a) := fun w' h => h.cellOf (by rw [hW0]; exact (((Ext.refl _).alloc _).alloc _).cellOf (boxed 0 rfl (by simp)))
  have e11 : ∀ w', (Ext W0) w' → w'.cell? ⟨w.heap.size + 1, 1, none⟩ = some (.int .i64 b) := fun w' h => h.cellOf (by rw [hW0]; exact (((Ext.refl _).alloc _).alloc _).cellOf (boxed 1 rfl (by simp)))
  have e12 : ∀ w', (Ext W0) w' → w'.cell? ⟨w.heap.size + 1, 2, none⟩ = some (.int .i64 c) := fun w' h => h.cellOf (by rw [hW0]; exact (((Ext.refl _).alloc _).alloc _).cellOf (boxed 2 rfl (by simp)))
  have e13 : ∀ w', (Ext W0) w' → w'.cell? ⟨w.heap.size + 1, 3, none⟩ = some (.int .i64 d) := fun w' h => h.cellOf (by rw [hW0]; exact (((Ext.refl _).alloc _).alloc _).cellOf (boxed 3 rfl (by simp)))
  have e14 : ∀ w', (Ext W0) w' → w'.cell? ⟨w.heap.size + 1, 4, none⟩ = some (.int .i64 n) := fun w' h => h.cellOf (by rw [hW0]; exact (((Ext.refl _).alloc _).alloc _).cellOf (boxed 4 rfl (by simp)))
  have e15 : ∀ w', (Ext W0) w' → w'.cell? ⟨w.heap.size + 1, 5, none⟩ = some (.bool s) := fun w' h => h.cellOf (by rw [hW0]; exact (((Ext.refl _).alloc _).alloc _).cellOf (boxed 5 rfl (by simp)))
  have e20 : ∀ w', (Ext W0) w' → w'.cell? ⟨w.heap.size + 1 + 1, 0, none⟩ = some (.int .i64 p) := fun w' h => h.cellOf (by rw [hW0]; exact ((Ext.refl _).alloc _).cellOf (boxed 0 rfl (by simp)))
  have e21 : ∀ w', (Ext W0) w' → w'.cell? ⟨w.heap.size + 1 + 1, 1, none⟩ = some (.int .i64 q) := fun w' h => h.cellOf (by rw [hW0]; exact ((Ext.refl _).alloc _).cellOf (boxed 1 rfl (by simp)))
  have e22 : ∀ w', (Ext W0) w' → w'.cell? ⟨w.heap.size + 1 + 1, 2, none⟩ = some (.int .i64 u) := fun w' h => h.cellOf (by rw [hW0]; exact ((Ext.refl _).alloc _).cellOf (boxed 2 rfl (by simp)))
  have e23 : ∀ w', (Ext W0) w' → w'.cell? ⟨w.heap.size + 1 + 1, 3, none⟩ = some (.int .i64 v) := fun w' h => h.cellOf (by rw [hW0]; exact ((Ext.refl _).alloc _).cellOf (boxed 3 rfl (by simp)))
  have e24 : ∀ w', (Ext W0) w' → w'.cell? ⟨w.heap.size + 1 + 1, 4, none⟩ = some (.int .i64 m) := fun w' h => h.cellOf (by rw [hW0]; exact ((Ext.refl _).alloc _).cellOf (boxed 4 rfl (by simp)))
  have e25 : ∀ w', (Ext W0) w' → w'.cell? ⟨w.heap.size + 1 + 1, 5, none⟩ = some (.bool t) := fun w' h => h.cellOf (by rw [hW0]; exact ((Ext.refl _).alloc _).cellOf (boxed 5 rfl (by simp)))
  have e30 : ∀ w', (Ext W0) w' → w'.cell? ⟨w.heap.size + 1 + 1 + 1, 0, none⟩ = some (.int .i64 0) := fun w' h => h.cellOf (by rw [hW0]; exact boxed 0 rfl (by simp))
  have e31 : ∀ w', (Ext W0) w' → w'.cell? ⟨w.heap.size + 1 + 1 + 1, 1, none⟩ = some (.int .i64 0) := fun w' h => h.cellOf (by rw [hW0]; exact boxed 1 rfl (by simp))
  have B3 := Lib.hid (show Box W0 (w.heap.size + 1 + 1 + 1) [.int .i64 0, .int .i64 0] from hW0 ▸ Box.new2 (by simp))
  have HX := Lib.hid (Ext.refl W0)
  cases s <;> cases t
  · go_enter Tryz.func89, Tryz.ntmps89
    have f0 := e15 W0 (Ext.refl _)
    have f1 := e25 W0 (Ext.refl _)
    have hr := Ext.refl W0
    go_upto_region 7 with fail
    rw [← hW0]
    clear hW0 f0 f1
    refine wp_region_held_drew (S := (fun w' => Ext W0 w')) (by kernel_rfl) (by (try dsimp only); first | go_keep | exact (Ext.refl _).drew | exact Res.new2.drew | exact Res.new4.drew | exact ResB.drew (by assumption) | exact ResC.drew (by assumption) | assumption | exact Ext.drew (by assumption) | exact Res.drew (by assumption)) (fun hHeld => ?_)
    refine Ord.K 0 29 ?_
    refine Ord.K 1 30 ?_
    refine Ord.K 2 31 ?_
    refine Ord.K 3 32 ?_
    refine Ord.K 5 34 ?_
    refine Ord.K 6 35 ?_
    refine Ord.K 7 36 ?_
    refine Ord.K 8 37 ?_
    (refine wpAnyH_ready (rs := [4]) (by kernel_rfl) (by simp) ?_; refine AllReadyH.cons rfl (fun K hK => ?_) AllReadyH.nil; go_simp; (first | (go_at_call 155; with_reducible refine (P1.out _).mono ?_; rintro e w4 ⟨rfl, hy⟩) | (go_at_call 155; with_reducible refine (P2.out _).mono ?_; rintro e w4 ⟨rfl, hy⟩)); go_wp2_with fail; (refine hK.out _ _ (by first | assumption | exact Ext.trans (by assumption) hy | exact Res.ext (by assumption) hy | exact ResB.ext (by assumption) hy | exact ResC.ext (by assumption) hy | (go_split_ands; (repeat' apply And.intro) <;> exact Ext.cellOf hy (by assumption))) (fun hHeld => ?_)); clear hK K; (try simp only [Act.put, Ord.a, Ord.b, Ord.c]))
    (refine wpAnyH_ready (rs := [9]) (by kernel_rfl) (by simp) ?_; refine AllReadyH.cons rfl (fun K hK => ?_) AllReadyH.nil; go_simp; (first | (go_at_call 155; with_reducible refine (P1.out _).mono ?_; rintro e w4 ⟨rfl, hy⟩) | (go_at_call 155; with_reducible refine (P2.out _).mono ?_; rintro e w4 ⟨rfl, hy⟩)); go_wp2_with fail; (refine hK.out _ _ (by first | assumption | exact Ext.trans (by assumption) hy | exact Res.ext (by assumption) hy | exact ResB.ext (by assumption) hy | exact ResC.ext (by assumption) hy | (go_split_ands; (repeat' apply And.intro) <;> exact Ext.cellOf hy (by assumption))) (fun hHeld => ?_)); clear hK K; (try simp only [Act.put, Ord.a, Ord.b, Ord.c]))
    refine Ord.K 10 7 ?_
    refine Ord.K 11 8 ?_
    refine wpAnyH_done (by kernel_rfl) ?_ _
    replace HX := Lib.hid (show Ext W0 w4 from hHeld)
    clear hHeld hy P1 P2
    cases h1 : (i == 0)
    · cases h2 : (j == 0)
      · have i0 : ¬ i = 0 := by simpa using h1
        have j0 : ¬ j = 0 := by simpa using h2
        have hg : ((i == 0) || (j == 0)) = false := by rw [h1, h2]; rfl
        by_cases hij : i = j
        · have hf : (i != j) = false := by simp [hij]
          have hA0 := Lib.hid (fun e => rl_wind (s := false) (t := false) (k := k) (o := o) rfl hg hf e)
          have hA1 := Lib.hid (fun e => rl_astern (s := false) (t := false) (k := k) (o := o) rfl hg hf e)
          have hA2 := Lib.hid (fun e => rl_ahead (s := false) (t := false) (k := k) (o := o) rfl hg hf e)
          have hA3 := Lib.hid (fun e => rl_apart (s := false) (t := false) (k := k) (o := o) rfl hg hf e)
          clear hg hf
          have hcase : (i == 1) = true ∧ (j == 2) = false ∧ (i == 2) = false ∨ (i == 1) = false ∧ (j == 2) = true ∧ (i == 2) = true ∧ (j == 1) = false := by
            subst hij
            rcases hT.out with rfl | rfl | rfl
            · exact absurd rfl i0
            · exact .inl (by decide)
            · exact .inr (by decide)
          clear i0 j0
          have HIJ := Lib.hid hij
          clear hij
          have g10 := e10 w4 HX.out; have g11 := e11 w4 HX.out; have g12 := e12 w4 HX.out; have g13 := e13 w4 HX.out; have g14 := e14 w4 HX.out
          have g20 := e20 w4 HX.out; have g21 := e21 w4 HX.out; have g22 := e22 w4 HX.out; have g23 := e23 w4 HX.out; have g24 := e24 w4 HX.out
          rcases hcase with ⟨c1, c2, c3⟩ | ⟨c1, c2, c3, c4⟩
          all_goals
            go_wp2_with fail
            refine (P3.out _).mono ?_
            rintro e w5 ⟨rfl, hy⟩
            replace HX := Lib.hid (HX.out.trans hy)
            clear hy g10 g11 g12 g13 g14 g20 g21 g22 g23 g24
            rcases hO.out with h0 | h0 | h0 | h0
            · have o1 : (o == 1) = false := by rw [h0]; rfl
              have o2 : (o == 2) = false := by rw [h0]; rfl
              have o3 : (o == 3) = false := by rw [h0]; rfl
              have HT := Lib.hid (hA0.out h0)
              clear h0
              have g10 := e10 w5 HX.out; have g11 := e11 w5 HX.out; have g12 := e12 w5 HX.out; have g13 := e13 w5 HX.out; have g14 := e14 w5 HX.out
              have g20 := e20 w5 HX.out; have g21 := e21 w5 HX.out; have g22 := e22 w5 HX.out; have g23 := e23 w5 HX.out; have g24 := e24 w5 HX.out
              have g00 := e00 w5 HX.out; have g01 := e01 w5 HX.out
              go_wp2_with fail
              refine (P4.out _).mono ?_
              rintro e w6 ⟨rfl, hy⟩
              replace HX := Lib.hid (HX.out.trans hy)
              clear hy g10 g11 g12 g13 g14 g20 g21 g22 g23 g24 g00 g01
              by_cases hk : k = 0
              · have HK := Lib.hid (HT.out.1.trans hk)
                have HR := Lib.hid (HT.out.2.trans (if_pos hk))
                have kz : (k == 0) = true := beq_iff_eq.2 hk
                clear hk
                go_wp2_with fail
                refine (unclear_any _).mono ?_
                rintro e w9 ⟨rfl, hy⟩
                replace HX := Lib.hid (HX.out.trans hy)
                clear hy
                obtain ⟨⟨r0, r1⟩, r2, r3⟩ := (B3.out.ext HX.out).two
                go_wp2
                exact rs_done (B3.out.ext HX.out).set2 (((hX.trans HX.out).setNew (by simp; omega) _).setNew (by simp; omega) _) rfl _ _ (HK.out) (HR.out)
              · have HK := Lib.hid HT.out.1
                have HR := Lib.hid (HT.out.2.trans (if_neg hk))
                have kz : (k == 0) = false := beq_eq_false_iff_ne.2 hk
                clear hk
                obtain ⟨⟨r0, r1⟩, r2, r3⟩ := (B3.out.ext HX.out).two
                go_wp2
                exact rs_done (B3.out.ext HX.out).set2 (((hX.trans HX.out).setNew (by simp; omega) _).setNew (by simp; omega) _) rfl _ _ (HK.out) (HR.out)
            · have o1 : (o == 1) = true := by rw [h0]; rfl
              have HT := Lib.hid (hA1.out h0)
              clear h0
              obtain ⟨⟨r0, r1⟩, r2, r3⟩ := (B3.out.ext HX.out).two
              go_wp2
              exact rs_done (B3.out.ext HX.out).set2 (((hX.trans HX.out).setNew (by simp; omega) _).setNew (by simp; omega) _) rfl _ _ (HT.out.1) (HT.out.2)
            · have o1 : (o == 1) = false := by rw [h0]; rfl
              have o2 : (o == 2) = true := by rw [h0]; rfl
              have HT := Lib.hid (hA2.out h0)
              clear h0
              obtain ⟨⟨r0, r1⟩, r2, r3⟩ := (B3.out.ext HX.out).two
              go_wp2
              exact rs_done (B3.out.ext HX.out).set2 (((hX.trans HX.out).setNew (by simp; omega) _).setNew (by simp; omega) _) rfl _ _ (HT.out.1) (HT.out.2)
            · have o1 : (o == 1) = false := by rw [h0]; rfl
              have o2 : (o == 2) = false := by rw [h0]; rfl
              have o3 : (o == 3) = true := by rw [h0]; rfl
              have HT := Lib.hid (hA3.out h0)
              clear h0
              go_wp2_with fail
              refine (unclear_any _).mono ?_
              rintro e w9 ⟨rfl, hy⟩
              replace HX := Lib.hid (HX.out.trans hy)
              clear hy
              obtain ⟨⟨r0, r1⟩, r2, r3⟩ := (B3.out.ext HX.out).two
              go_wp2
              exact rs_done (B3.out.ext HX.out).set2 (((hX.trans HX.out).setNew (by simp; omega) _).setNew (by simp; omega) _) rfl _ _ (HT.out.1) (HT.out.2)
        · have hf : (i != j) = true := by simpa using hij
          have HT := Lib.hid (rl_opp (s := false) (t := false) (k := k) (o := o) rfl hg hf)
          clear hg hf
          have hcase : i = 1 ∧ j = 2 ∨ i = 2 ∧ j = 1 := by rcases hT.out with e | e | e <;> rcases hU.out with e2 | e2 | e2 <;> omega
          clear i0 j0 hij
          rcases hcase with ⟨rfl, rfl⟩ | ⟨rfl, rfl⟩
          · have HK := Lib.hid (HT.out.1.trans (if_pos rfl))
            have HR := Lib.hid HT.out.2
            clear HT
            obtain ⟨⟨r0, r1⟩, r2, r3⟩ := (B3.out.ext HX.out).two
            go_wp2
            exact rs_done (B3.out.ext HX.out).set2 (((hX.trans HX.out).setNew (by simp; omega) _).setNew (by simp; omega) _) rfl _ _ (HK.out) (HR.out)
          · have HK := Lib.hid (HT.out.1.trans (if_neg (by decide)))
            have HR := Lib.hid HT.out.2
            clear HT
            obtain ⟨⟨r0, r1⟩, r2, r3⟩ := (B3.out.ext HX.out).two
            go_wp2
            exact rs_done (B3.out.ext HX.out).set2 (((hX.trans HX.out).setNew (by simp; omega) _).setNew (by simp; omega) _) rfl _ _ (HK.out) (HR.out)
      · have HT := Lib.hid (rl_none (s := false) (t := false) (i := i) (j := j) (k := k) (o := o) rfl (by rw [h1, h2]; rfl))
        go_wp2_with fail
        refine (unclear_any _).mono ?_
        rintro e w9 ⟨rfl, hy⟩
        replace HX := Lib.hid (HX.out.trans hy)
        clear hy
        obtain ⟨⟨r0, r1⟩, r2, r3⟩ := (B3.out.ext HX.out).two
        go_wp2
        exact rs_done (B3.out.ext HX.out).set2 (((hX.trans HX.out).setNew (by simp; omega) _).setNew (by simp; omega) _) rfl _ _ (HT.out.1) (HT.out.2)
    · have HT := Lib.hid (rl_none (s := false) (t := false) (i := i) (j := j) (k := k) (o := o) rfl (by rw [h1]; rfl))
      go_wp2_with fail
      refine (unclear_any _).mono ?_
      rintro e w9 ⟨rfl, hy⟩
      replace HX := Lib.hid (HX.out.trans hy)
      clear hy
      obtain ⟨⟨r0, r1⟩, r2, r3⟩ := (B3.out.ext HX.out).two
      go_wp2
      exact rs_done (B3.out.ext HX.out).set2 (((hX.trans HX.out).setNew (by simp; omega) _).setNew (by simp; omega) _) rfl _ _ (HT.out.1) (HT.out.2)
  · have HT := Lib.hid (rl_turn (s := false) (t := true) (i := i) (j := j) (k := k) (o := o) rfl)
    have f0 := e15 W0 (Ext.refl _)
    have f1 := e25 W0 (Ext.refl _)
    go_enter Tryz.func89, Tryz.ntmps89
    go_upto_region 1 with fail
    rw [← hW0]
    clear hW0
    obtain ⟨⟨r0, r1⟩, r2, r3⟩ := (B3.out.ext HX.out).two
    go_wp2
    exact rs_done (B3.out.ext HX.out).set2 (((hX.trans HX.out).setNew (by simp; omega) _).setNew (by simp; omega) _) rfl _ _ (HT.out.1) (HT.out.2)
  · have HT := Lib.hid (rl_turn (s := true) (t := false) (i := i) (j := j) (k := k) (o := o) rfl)
    have f0 := e15 W0 (Ext.refl _)
    have f1 := e25 W0 (Ext.refl _)
    go_enter Tryz.func89, Tryz.ntmps89
    go_upto_region 1 with fail
    rw [← hW0]
    clear hW0
    obtain ⟨⟨r0, r1⟩, r2, r3⟩ := (B3.out.ext HX.out).two
    go_wp2
    exact rs_done (B3.out.ext HX.out).set2 (((hX.trans HX.out).setNew (by simp; omega) _).setNew (by simp; omega) _) rfl _ _ (HT.out.1) (HT.out.2)
  · have HT := Lib.hid (rl_turn (s := true) (t := true) (i := i) (j := j) (k := k) (o := o) rfl)
    have f0 := e15 W0 (Ext.refl _)
    have f1 := e25 W0 (Ext.refl _)
    go_enter Tryz.func89, Tryz.ntmps89
    go_upto_region 1 with fail
    rw [← hW0]
    clear hW0
    go_wp2_with fail
    refine (unclear_any _).mono ?_
    rintro e w9 ⟨rfl, hy⟩
    replace HX := Lib.hid (HX.out.trans hy)
    clear hy
    obtain ⟨⟨r0, r1⟩, r2, r3⟩ := (B3.out.ext HX.out).two
    go_wp2
    exact rs_done (B3.out.ext HX.out).set2 (((hX.trans HX.out).setNew (by simp; omega) _).setNew (by simp; omega) _) rfl _ _ (HT.out.1) (HT.out.2)
end Go.Proofs.YtmlojndkpnhalaaGreat.Rul
namespace Go.Proofs.YtmlojndkpnhalaaGreat.Rul
open Go.ChangeShapes Go.WideShapes Go.ChangeAt Go.RowKit
open Go.Proofs.YtmlojndkpnhalaaGreat.Num Go.Proofs.YtmlojndkpnhalaaGreat.Kit Go.Proofs.YtmlojndkpnhalaaGreat.Pts Go.Proofs.YtmlojndkpnhalaaGreat.Seg Go.Proofs.YtmlojndkpnhalaaGreat.Wnd Go.Proofs.YtmlojndkpnhalaaGreat.Hul
set_option linter.unusedVariables false
set_option linter.unusedSimpArgs false
def roK (x y a b c d n : Int) (s : Bool) (p q u v m : Int) (t : Bool) : Int := if wwB x y a b c d n p q u v m = true then ruK x y a b c d n s p q u v m t else 0
def roR (x y a b c d n : Int) (s : Bool) (p q u v m : Int) (t : Bool) : Int := if wwB x y a b c d n p q u v m = true then ruR x y a b c d n s p q u v m t else 0
theorem ri_done {n : Nat} {w F : World} {tmps : Array Value} {a b k : Int} (B : Box F n [.int .i64 a, .int .i64 b]) (hC : Ext w F) (h6 : tmps[6]? = some (.pointer (some ⟨n, 0, none⟩))) (h7 : tmps[7]? = some (.int .i64 k)) (X Y C : Int) (hX : X = a) (hY : Y = b) (hK : C = k) :
    bodyPost Tryz.prog Tryz.f32 (fun e w' => e = .returned (.tuple #[Pt X Y, .int .i64 C]) ∧ Ext w w') Exit.ret ⟨tmps, []⟩ F := by
  subst hX; subst hY; subst hK
  obtain ⟨⟨g0, g1⟩, _⟩ := B.two
  exact bodyPost_ret (v := .tuple #[Pt X Y, .int .i64 C]) (by simp [results, Tryz.results32, go_sem, h6, h7, g0, g1]) rfl ⟨rfl, hC⟩
set_option maxHeartbeats 4000000 in
theorem ruleOn_impl (x y a b c d n : Int) (s : Bool) (p q u v m : Int) (t : Bool) (w : World) :
    Calls Tryz.prog 32 #[Pt x y, Bo a b c d n s, Bo p q u v m t] w fun e w' => e = .returned (.tuple #[Pt (roK x y a b c d n s p q u v m t) (roR x y a b c d n s p q u v m t), .int .i64 (wwC x y a b c d n p q u v m)]) ∧ Ext w w' := by
  obtain ⟨W0, hW0⟩ : ∃ W0, W0 = (((w.alloc (.cells #[.int .i64 x, .int .i64 y] 54)).alloc (.cells #[.int .i64 a, .int .i64 b, .int .i64 c, .int .i64 d, .int .i64 n, .bool s] 64)).alloc (.cells #[.int .i64 p, .int .i64 q, .int .i64 u, .int .i64 v, .int .i64 m, .bool t] 64)).alloc (.cells #[.int .i64 0, .int .i64 0] 58) := ⟨_, rfl⟩
  have hX : Ext w W0 := hW0 ▸ (((((Ext.refl w).alloc _).alloc _).alloc _).alloc _)
  have hs0 : W0.heap.size = w.heap.size + 1 + 1 + 1 + 1 := by rw [hW0]; simp
  have e00 : ∀ w', (Ext W0) w' → w'.cell? ⟨w.heap.size, 0, none⟩ = some (.int .i64 x) := fun w' h => h.cellOf (by rw [hW0]; exact ((((Ext.refl _).alloc _).alloc _).alloc _).cellOf (boxed 0 rfl (by simp)))
  have e01 : ∀ w', (Ext W0) w' → w'.cell? ⟨w.heap.size, 1, none⟩ = some (.int .i64 y) := fun w' h => h.cellOf (by rw [hW0]; exact ((((Ext.refl _).alloc _).alloc _).alloc _).cellOf (boxed 1 rfl (by simp)))
  have e10 : ∀ w', (Ext W0) w' → w'.cell? ⟨w.heap.size + 1, 0, none⟩ = some (.int .i64 a) := fun w' h => h.cellOf (by rw [hW0]; exact (((Ext.refl _).alloc _).alloc _).cellOf (boxed 0 rfl (by simp)))
  have e11 : ∀ w', (Ext W0) w' → w'.cell? ⟨w.heap.size + 1, 1, none⟩ = some (.int .i64 b) := fun w' h => h.cellOf (by rw [hW0]; exact (((Ext.refl _).alloc _).alloc _).cellOf (boxed 1 rfl (by simp)))
  have e12 : ∀ w', (Ext W0) w' → w'.cell? ⟨w.heap.size + 1, 2, none⟩ = some (.int .i64 c) := fun w' h => h.cellOf (by rw [hW0]; exact (((Ext.refl _).alloc _).alloc _).cellOf (boxed 2 rfl (by simp)))
  have e13 : ∀ w', (Ext W0) w' → w'.cell? ⟨w.heap.size + 1, 3, none⟩ = some (.int .i64 d) := fun w' h => h.cellOf (by rw [hW0]; exact (((Ext.refl _).alloc _).alloc _).cellOf (boxed 3 rfl (by simp)))
  have e14 : ∀ w', (Ext W0) w' → w'.cell? ⟨w.heap.size + 1, 4, none⟩ = some (.int .i64 n) := fun w' h => h.cellOf (by rw [hW0]; exact (((Ext.refl _).alloc _).alloc _).cellOf (boxed 4 rfl (by simp)))
  have e15 : ∀ w', (Ext W0) w' → w'.cell? ⟨w.heap.size + 1, 5, none⟩ = some (.bool s) := fun w' h => h.cellOf (by rw [hW0]; exact (((Ext.refl _).alloc _).alloc _).cellOf (boxed 5 rfl (by simp)))
  have e20 : ∀ w', (Ext W0) w' → w'.cell? ⟨w.heap.size + 1 + 1, 0, none⟩ = some (.int .i64 p) := fun w' h => h.cellOf (by rw [hW0]; exact ((Ext.refl _).alloc _).cellOf (boxed 0 rfl (by simp)))
  have e21 : ∀ w', (Ext W0) w' → w'.cell? ⟨w.heap.size + 1 + 1, 1, none⟩ = some (.int .i64 q) := fun w' h => h.cellOf (by rw [hW0]; exact ((Ext.refl _).alloc _).cellOf (boxed 1 rfl (by simp)))
  have e22 : ∀ w', (Ext W0) w' → w'.cell? ⟨w.heap.size + 1 + 1, 2, none⟩ = some (.int .i64 u) := fun w' h => h.cellOf (by rw [hW0]; exact ((Ext.refl _).alloc _).cellOf (boxed 2 rfl (by simp)))
  have e23 : ∀ w', (Ext W0) w' → w'.cell? ⟨w.heap.size + 1 + 1, 3, none⟩ = some (.int .i64 v) := fun w' h => h.cellOf (by rw [hW0]; exact ((Ext.refl _).alloc _).cellOf (boxed 3 rfl (by simp)))
  have e24 : ∀ w', (Ext W0) w' → w'.cell? ⟨w.heap.size + 1 + 1, 4, none⟩ = some (.int .i64 m) := fun w' h => h.cellOf (by rw [hW0]; exact ((Ext.refl _).alloc _).cellOf (boxed 4 rfl (by simp)))
  have e25 : ∀ w', (Ext W0) w' → w'.cell? ⟨w.heap.size + 1 + 1, 5, none⟩ = some (.bool t) := fun w' h => h.cellOf (by rw [hW0]; exact ((Ext.refl _).alloc _).cellOf (boxed 5 rfl (by simp)))
  have e30 : ∀ w', (Ext W0) w' → w'.cell? ⟨w.heap.size + 1 + 1 + 1, 0, none⟩ = some (.int .i64 0) := fun w' h => h.cellOf (by rw [hW0]; exact boxed 0 rfl (by simp))
  have e31 : ∀ w', (Ext W0) w' → w'.cell? ⟨w.heap.size + 1 + 1 + 1, 1, none⟩ = some (.int .i64 0) := fun w' h => h.cellOf (by rw [hW0]; exact boxed 1 rfl (by simp))
  have B3 := Lib.hid (show Box W0 (w.heap.size + 1 + 1 + 1) [.int .i64 0, .int .i64 0] from hW0 ▸ Box.new2 (by simp))
  go_enter Tryz.func32, Tryz.ntmps32
  go_wp2_with fail
  rw [← hW0]
  clear hW0
  refine (windValid_any _ _ _).mono ?_
  rintro e w1 ⟨rfl, hz⟩
  replace hz : Ext W0 w1 := hz
  cases h0 : wdB x y
  · have HB := Lib.hid (show wwB x y a b c d n p q u v m = false by unfold wwB; rw [h0]; rfl)
    have HC := Lib.hid (show wwC x y a b c d n p q u v m = 1 from if_no HB.out)
    have HK := Lib.hid (show roK x y a b c d n s p q u v m t = 0 from if_no HB.out)
    have HR := Lib.hid (show roR x y a b c d n s p q u v m t = 0 from if_no HB.out)
    obtain ⟨⟨r0, r1⟩, r2, r3⟩ := (B3.out.ext hz).two
    go_wp2
    exact ri_done (B3.out.ext hz).set2 (((hX.trans hz).setNew (by simp; omega) _).setNew (by simp; omega) _) rfl rfl _ _ _ HK.out HR.out HC.out
  have g10 := e10 w1 hz; have g11 := e11 w1 hz; have g12 := e12 w1 hz; have g13 := e13 w1 hz; have g14 := e14 w1 hz
  go_wp2_with fail
  refine (hullValid_any _ _ _ _ _ _).mono ?_
  rintro e w2 ⟨rfl, hy⟩
  replace hz := hz.trans hy
  clear hy g10 g11 g12 g13 g14
  cases h1 : hlB a b c d n
  · have HB := Lib.hid (show wwB x y a b c d n p q u v m = false by unfold wwB; rw [h0, h2_no1 h1]; rfl)
    have HC := Lib.hid (show wwC x y a b c d n p q u v m = 1 from if_no HB.out)
    have HK := Lib.hid (show roK x y a b c d n s p q u v m t = 0 from if_no HB.out)
    have HR := Lib.hid (show roR x y a b c d n s p q u v m t = 0 from if_no HB.out)
    obtain ⟨⟨r0, r1⟩, r2, r3⟩ := (B3.out.ext hz).two
    go_wp2
    exact ri_done (B3.out.ext hz).set2 (((hX.trans hz).setNew (by simp; omega) _).setNew (by simp; omega) _) rfl rfl _ _ _ HK.out HR.out HC.out
  have g20 := e20 w2 hz; have g21 := e21 w2 hz; have g22 := e22 w2 hz; have g23 := e23 w2 hz; have g24 := e24 w2 hz
  go_wp2_with fail
  refine (hullValid_any _ _ _ _ _ _).mono ?_
  rintro e w3 ⟨rfl, hy⟩
  replace hz := hz.trans hy
  clear hy g20 g21 g22 g23 g24
  cases h2 : hlB p q u v m
  · have HB := Lib.hid (show wwB x y a b c d n p q u v m = false by unfold wwB; rw [h0, h2_no2 h2]; rfl)
    have HC := Lib.hid (show wwC x y a b c d n p q u v m = 1 from if_no HB.out)
    have HK := Lib.hid (show roK x y a b c d n s p q u v m t = 0 from if_no HB.out)
    have HR := Lib.hid (show roR x y a b c d n s p q u v m t = 0 from if_no HB.out)
    obtain ⟨⟨r0, r1⟩, r2, r3⟩ := (B3.out.ext hz).two
    go_wp2
    exact ri_done (B3.out.ext hz).set2 (((hX.trans hz).setNew (by simp; omega) _).setNew (by simp; omega) _) rfl rfl _ _ _ HK.out HR.out HC.out
  have HB := Lib.hid (show wwB x y a b c d n p q u v m = true by unfold wwB; rw [h0, h2_yes h1 h2]; rfl)
  have HC := Lib.hid (show wwC x y a b c d n p q u v m = 0 from if_yes HB.out)
  have HK := Lib.hid (show roK x y a b c d n s p q u v m t = ruK x y a b c d n s p q u v m t from if_yes HB.out)
  have HR := Lib.hid (show roR x y a b c d n s p q u v m t = ruR x y a b c d n s p q u v m t from if_yes HB.out)
  have PA := Lib.hid (fun w => rulingOn_any x y a b c d n s p q u v m t w h0 h1 h2)
  generalize ruK x y a b c d n s p q u v m t = K at *
  generalize ruR x y a b c d n s p q u v m t = Q at *
  have g00 := e00 w3 hz; have g01 := e01 w3 hz
  have g10 := e10 w3 hz; have g11 := e11 w3 hz; have g12 := e12 w3 hz; have g13 := e13 w3 hz; have g14 := e14 w3 hz; have g15 := e15 w3 hz
  have g20 := e20 w3 hz; have g21 := e21 w3 hz; have g22 := e22 w3 hz; have g23 := e23 w3 hz; have g24 := e24 w3 hz; have g25 := e25 w3 hz
  go_wp2_with fail
  refine (PA.out _).mono ?_
  rintro e w4 ⟨rfl, hy⟩
  replace hz := hz.trans hy
  obtain ⟨⟨r0, r1⟩, r2, r3⟩ := (B3.out.ext hz).two
  go_wp2
  exact ri_done (B3.out.ext hz).set2 (((hX.trans hz).setNew (by simp; omega) _).setNew (by simp; omega) _) rfl rfl _ _ _ HK.out HR.out HC.out
end Go.Proofs.YtmlojndkpnhalaaGreat.Rul
