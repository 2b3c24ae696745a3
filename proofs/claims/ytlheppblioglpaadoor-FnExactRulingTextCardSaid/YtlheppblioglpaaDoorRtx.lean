/- The texts of rulings (chapter 10): RulingText of both. -/
import Derived.Test.YtlheppblioglpaaDoorRulT
import Derived.Test.YtlheppblioglpaaDoorRead
import Derived.Test.YtlheppblioglpaaDoorOrd
import Derived.Deep.LoopGhost
import Derived.Laws.EntriesVeiled
namespace Go.Proofs.YtlheppblioglpaaDoor.Rtx
open Go.ChangeShapes Go.WideShapes Go.ChangeAt Go.RowKit
open Go.Proofs.YtlheppblioglpaaDoor.Num Go.Proofs.YtlheppblioglpaaDoor.Kit Go.Proofs.YtlheppblioglpaaDoor.Txt Go.Proofs.YtlheppblioglpaaDoor.TxtMath Go.Proofs.YtlheppblioglpaaDoor.RulT
set_option linter.unusedVariables false
set_option linter.unusedSimpArgs false

abbrev Ru (k r : Int) : Value := .agg #[.int .i64 k, .int .i64 r]
theorem hullNumber_any (n : Int) (w : World) : Calls Tryd.prog 20 #[.int .i64 n] w fun e w' => e = .returned (.bool (inB n 0 2)) ∧ w = w' := by
  by_cases h1 : 0 ≤ n
  · by_cases h2 : n ≤ 2
    · have H := Lib.hid (inB_yes h1 h2)
      go_enter Tryd.func20, Tryd.ntmps20
      go_wp2
      go_ret
      exact ⟨ret_bool H.out, rfl⟩
    · have H := Lib.hid (inB_no (n := n) (lo := 0) (hi := 2) (fun h => h2 h.2))
      go_enter Tryd.func20, Tryd.ntmps20
      go_wp2
      go_ret
      exact ⟨ret_bool H.out, rfl⟩
  · have H := Lib.hid (inB_no (n := n) (lo := 0) (hi := 2) (fun h => h1 h.1))
    go_enter Tryd.func20, Tryd.ntmps20
    go_wp2
    go_ret
    exact ⟨ret_bool H.out, rfl⟩
theorem isReason_any (n : Int) (w : World) : Calls Tryd.prog 21 #[.int .i64 n] w fun e w' => e = .returned (.bool (inB n 1 5)) ∧ w = w' := by
  by_cases h1 : 1 ≤ n
  · by_cases h2 : n ≤ 5
    · have H := Lib.hid (inB_yes h1 h2)
      go_enter Tryd.func21, Tryd.ntmps21
      go_wp2
      go_ret
      exact ⟨ret_bool H.out, rfl⟩
    · have H := Lib.hid (inB_no (n := n) (lo := 1) (hi := 5) (fun h => h2 h.2))
      go_enter Tryd.func21, Tryd.ntmps21
      go_wp2
      go_ret
      exact ⟨ret_bool H.out, rfl⟩
  · have H := Lib.hid (inB_no (n := n) (lo := 1) (hi := 5) (fun h => h1 h.1))
    go_enter Tryd.func21, Tryd.ntmps21
    go_wp2
    go_ret
    exact ⟨ret_bool H.out, rfl⟩
theorem rv_no1 {k r : Int} (h : inB k 0 2 = false) : rvB k r = false := by unfold rvB; rw [h]; rfl
theorem rv_no2 {k r : Int} (h : inB r 1 5 = false) : rvB k r = false := by unfold rvB; rw [h]; simp
theorem rv_last {k r : Int} (h : inB k 0 2 = true) (g : inB r 1 5 = true) : rvB k r = ((k == 0) == (r == 5)) := by unfold rvB; rw [h, g]; rfl

theorem ruValid_any (k r : Int) (w : World) : Calls Tryd.prog 14 #[Ru k r] w fun e w' => e = .returned (.bool (rvB k r)) ∧ Ext w w' := by
  cases h1 : inB k 0 2
  · have H := Lib.hid (rv_no1 (r := r) h1)
    go_enter Tryd.func14, Tryd.ntmps14
    go_wp2_with (first | (go_at_call 20; refine (hullNumber_any _ _).mono ?_; rintro e w1 ⟨rfl, rfl⟩) | (go_at_call 21; refine (isReason_any _ _).mono ?_; rintro e w1 ⟨rfl, rfl⟩))
    go_ret
    exact ⟨ret_bool H.out, (by repeat (first | exact Ext.refl _ | assumption | apply Ext.alloc | apply Ext.drew | (refine Ext.trans ?_ (by assumption)) | (refine Ext.setNew ?_ (by simp <;> omega) _)))⟩
  cases h2 : inB r 1 5
  · have H := Lib.hid (rv_no2 (k := k) h2)
    go_enter Tryd.func14, Tryd.ntmps14
    go_wp2_with (first | (go_at_call 20; refine (hullNumber_any _ _).mono ?_; rintro e w1 ⟨rfl, rfl⟩) | (go_at_call 21; refine (isReason_any _ _).mono ?_; rintro e w1 ⟨rfl, rfl⟩))
    go_ret
    exact ⟨ret_bool H.out, (by repeat (first | exact Ext.refl _ | assumption | apply Ext.alloc | apply Ext.drew | (refine Ext.trans ?_ (by assumption)) | (refine Ext.setNew ?_ (by simp <;> omega) _)))⟩
  · have H := Lib.hid (rv_last h1 h2)
    cases h3 : (k == 0) <;> cases h4 : (r == 5)
    all_goals
      have H2 := Lib.hid (H.out.trans (by rw [h3, h4]))
      go_enter Tryd.func14, Tryd.ntmps14
      go_wp2_with (first | (go_at_call 20; refine (hullNumber_any _ _).mono ?_; rintro e w1 ⟨rfl, rfl⟩) | (go_at_call 21; refine (isReason_any _ _).mono ?_; rintro e w1 ⟨rfl, rfl⟩))
      go_ret
      exact ⟨ret_bool H2.out, (by repeat (first | exact Ext.refl _ | assumption | apply Ext.alloc | apply Ext.drew | (refine Ext.trans ?_ (by assumption)) | (refine Ext.setNew ?_ (by simp <;> omega) _)))⟩

abbrev wordsV : Value := .agg #[St [], St wTurning, St wPortR, St wAstern, St wWindward, St wUnclear]
theorem words_impl (w : World) : Calls Tryd.prog 16 #[] w fun e w' => e = .returned wordsV ∧ Ext w w' := by
  go_enter Tryd.func16, Tryd.ntmps16
  go_wp2
  exact bodyPost_ret (v := wordsV) (by simp [results, Tryd.results16, go_sem]) rfl ⟨rfl, (by repeat (first | exact Ext.refl _ | assumption | apply Ext.alloc | apply Ext.drew | (refine Ext.trans ?_ (by assumption)) | (refine Ext.setNew ?_ (by simp <;> omega) _)))⟩
theorem wx_any {r : Int} (h1 : 1 ≤ r) (h5 : r ≤ 5) (w : World) : (Instr.index 37 wordsV (.int .i64 r)).run Tryd.prog w = .ok (St (rwW r)) w := by
  rcases (show r = 1 ∨ r = 2 ∨ r = 3 ∨ r = 4 ∨ r = 5 by omega) with rfl | rfl | rfl | rfl | rfl
  all_goals simp [Instr.index, run_underlying Tryd.underlying37, asIntOf, go_sem, rwW]
theorem decimalK_any (n : Int) (w : World) (h0 : 0 ≤ n) (h1 : n < 10) (ht : Tab w) : Calls Tryd.prog 15 #[.int .i64 n] w fun e w' => e = .returned (St [dgK n]) ∧ Ext w w' := by
  have K := Lib.hid (Tryd.strconv_FormatInt_10 n (by omega) (by omega) w ht)
  have HI := Lib.hid (show Lib.itoa n = [dgK n] by
    unfold dgK
    obtain ⟨u, rfl⟩ := Int.eq_ofNat_of_zero_le h0
    rw [Lib.itoa_nonneg, Lib.decDigits_one (by omega)]; simp)
  generalize Lib.itoa n = X at *
  go_enter Tryd.func15, Tryd.ntmps15
  go_wp2_with fail
  refine K.out.mono ?_
  rintro e w1 ⟨rfl, k, os, rfl⟩
  go_wp2
  go_ret
  exact ⟨st_eq HI.out.symm, grow_ext w k os⟩
theorem cat_ru {d : UInt8} {R l : List UInt8} (h : l = d :: 32 :: R) : Ending.returned (.string (({ data := #[d] } : ByteArray) ++ { data := #[32] } ++ { data := R.toArray })) = .returned (St l) := by
  rw [h, cat_eq, cat_eq]; simp
theorem rt_no {k r : Int} (h : rvB k r = false) : rtT k r = [] := by unfold rtT; rw [h]; rfl
theorem rt_yes {k r : Int} (h : rvB k r = true) : rtT k r = dgK k :: 32 :: rwW r := by unfold rtT; rw [if_pos h]; rfl
theorem rv_bd {k r : Int} (h : rvB k r = true) : (0 ≤ k ∧ k ≤ 2) ∧ 1 ≤ r ∧ r ≤ 5 := by
  unfold rvB at h
  rw [Bool.and_eq_true, Bool.and_eq_true] at h
  exact ⟨of_inB h.1, of_inB h.2.1⟩
theorem rw_len (r : Int) : (rwW r).length ≤ 8 := by
  unfold rwW
  repeat' split
  all_goals decide

set_option maxHeartbeats 1000000 in
theorem rulingText_impl (k r : Int) (w : World) (hE : Tab w) : Calls Tryd.prog 7 #[Ru k r] w fun e w' => e = .returned (St (rtT k r)) ∧ Ext w w' := by
  have HE := Lib.hid hE
  clear hE
  obtain ⟨W0, hW0⟩ : ∃ W0, W0 = w.alloc (.cells #[.int .i64 k, .int .i64 r] 25) := ⟨_, rfl⟩
  have hX : Ext w W0 := hW0 ▸ ((Ext.refl w).alloc _)
  have hs0 : W0.heap.size = w.heap.size + 1 := by rw [hW0]; simp
  have e00 : ∀ w', (Ext W0) w' → w'.cell? ⟨w.heap.size, 0, none⟩ = some (.int .i64 k) := fun w' h => h.cellOf (by rw [hW0]; exact boxed 0 rfl (by simp))
  have e01 : ∀ w', (Ext W0) w' → w'.cell? ⟨w.heap.size, 1, none⟩ = some (.int .i64 r) := fun w' h => h.cellOf (by rw [hW0]; exact boxed 1 rfl (by simp))
  go_enter Tryd.func7, Tryd.ntmps7
  go_wp2_with fail
  rw [← hW0]
  clear hW0
  refine (ruValid_any _ _ _).mono ?_
  rintro e w1 ⟨rfl, hz⟩
  replace hz : Ext W0 w1 := hz
  cases hv : rvB k r
  · have HT := Lib.hid (rt_no hv)
    go_wp2
    go_ret
    exact ⟨st_eq HT.out, hX.trans hz⟩
  have HT := Lib.hid (rt_yes hv)
  obtain ⟨⟨k0, k2⟩, r1, r5⟩ := rv_bd hv
  have hI := fun w => wx_any r1 r5 w
  have PD := Lib.hid (fun (w' : World) (h : Ext w1 w') => decimalK_any k w' k0 (by omega) (HE.out.ext (hX.trans (hz.trans h))))
  have L0 := rw_len r
  generalize rwW r = R at *
  replace e00 : ∀ w', Ext w1 w' → w'.cell? ⟨w.heap.size, 0, none⟩ = some (.int .i64 k) := fun w' h => e00 w' (hz.trans h)
  replace e01 : ∀ w', Ext w1 w' → w'.cell? ⟨w.heap.size, 1, none⟩ = some (.int .i64 r) := fun w' h => e01 w' (hz.trans h)
  have hr := Ext.refl w1
  have s0 : ¬ (9223372036854775807 < 2 + R.length) := by omega
  generalize dgK k = d at *
  go_wp2_with fail
  refine wp_region_held_drew (S := (fun w' => Ext w1 w')) (by kernel_rfl) (by (try dsimp only); first | go_keep | exact (Ext.refl _).drew | exact Res.new2.drew | exact Res.new4.drew | exact ResB.drew (by assumption) | exact ResC.drew (by assumption) | assumption | exact Ext.drew (by assumption) | exact Res.drew (by assumption)) (fun hHeld => ?_)
  refine Ord.K 0 6 ?_
  refine Ord.K 1 7 ?_
  refine Ord.K 5 11 ?_
  refine Ord.K 6 12 ?_
  (refine wpAnyH_ready (rs := [2]) (by kernel_rfl) (by simp) ?_; refine AllReadyH.cons rfl (fun K hK => ?_) AllReadyH.nil; go_simp; (first | (go_at_call 15; refine (PD.out _ (by assumption)).mono ?_; rintro e w4 ⟨rfl, hy⟩) | (go_at_call 16; refine (words_impl _).mono ?_; rintro e w4 ⟨rfl, hy⟩)); go_wp2_with fail; (refine hK.out _ _ (by first | assumption | exact Ext.trans (by assumption) hy | exact Res.ext (by assumption) hy | exact ResB.ext (by assumption) hy | exact ResC.ext (by assumption) hy | (go_split_ands; (repeat' apply And.intro) <;> exact Ext.cellOf hy (by assumption))) (fun hHeld => ?_)); clear hK K; (try simp only [Act.put, Ord.a, Ord.b, Ord.c]))
  refine Ord.K 3 9 ?_
  (refine wpAnyH_ready (rs := [4]) (by kernel_rfl) (by simp) ?_; refine AllReadyH.cons rfl (fun K hK => ?_) AllReadyH.nil; go_simp; (first | (go_at_call 15; refine (PD.out _ (by assumption)).mono ?_; rintro e w4 ⟨rfl, hy⟩) | (go_at_call 16; refine (words_impl _).mono ?_; rintro e w4 ⟨rfl, hy⟩)); go_wp2_with fail; (refine hK.out _ _ (by first | assumption | exact Ext.trans (by assumption) hy | exact Res.ext (by assumption) hy | exact ResB.ext (by assumption) hy | exact ResC.ext (by assumption) hy | (go_split_ands; (repeat' apply And.intro) <;> exact Ext.cellOf hy (by assumption))) (fun hHeld => ?_)); clear hK K; (try simp only [Act.put, Ord.a, Ord.b, Ord.c]))
  refine Ord.K 7 13 ?_
  refine Ord.K 8 14 ?_
  refine Ord.K 9 2 ?_
  refine wpAnyH_done (by kernel_rfl) ?_ _
  go_wp2
  go_ret
  exact ⟨cat_ru HT.out, hX.trans (hz.trans (by assumption))⟩

theorem lw_any (r : Int) (h1 : 1 ≤ r) (h5 : r ≤ 5) : ([St wTurning, St wPortR, St wAstern, St wWindward, St wUnclear] : List Value)[(r - 1).toNat]? = some (St (rwW r)) := by
  rcases (show r = 1 ∨ r = 2 ∨ r = 3 ∨ r = 4 ∨ r = 5 by omega) with rfl | rfl | rfl | rfl | rfl <;> rfl
theorem words_spec (w : World) : Calls Tryd.prog 13 #[] w fun e w' => e = .returned (.slice (some ⟨w.heap.size, 0, none⟩) 5 5) ∧ (∀ r : Int, 1 ≤ r → r ≤ 5 → w'.cell? ⟨w.heap.size, (r - 1).toNat, none⟩ = some (St (rwW r))) ∧ Ext w w' := by
  go_enter Tryd.func13, Tryd.ntmps13
  go_wp2
  go_ret
  exact ⟨rfl, fun r h1 h5 => boxed _ (by simpa using lw_any r h1 h5) rfl, (by repeat (first | exact Ext.refl _ | assumption | apply Ext.alloc | apply Ext.drew | (refine Ext.trans ?_ (by assumption)) | (refine Ext.setNew ?_ (by simp <;> omega) _)))⟩
theorem numberK_any (n : Int) (w : World) (h0 : 0 ≤ n) (h : n < 10) : Calls Tryd.prog 12 #[.int .i64 n] w fun e w' => e = .returned (St [dgK n]) ∧ Ext w w' := by
  have HD := Lib.hid (show Lib.decDigits n.toNat = [dgK n] by rw [Lib.decDigits_one (by omega)]; rfl)
  refine (number_any 1 n w h0 (by omega) (by omega)).mono fun e w' ⟨he, hx⟩ => ⟨?_, hx⟩
  rw [he, HD.out]

set_option maxHeartbeats 2000000 in
theorem rulingText_spec (k r : Int) (w : World) : Calls Tryd.prog 5 #[Ru k r] w fun e w' => e = .returned (St (rtT k r)) ∧ Ext w w' := by
  obtain ⟨W0, hW0⟩ : ∃ W0, W0 = w.alloc (.cells #[.int .i64 k, .int .i64 r] 25) := ⟨_, rfl⟩
  have hX : Ext w W0 := hW0 ▸ ((Ext.refl w).alloc _)
  have hs0 : W0.heap.size = w.heap.size + 1 := by rw [hW0]; simp
  have e00 : ∀ w', (Ext W0) w' → w'.cell? ⟨w.heap.size, 0, none⟩ = some (.int .i64 k) := fun w' h => h.cellOf (by rw [hW0]; exact boxed 0 rfl (by simp))
  have e01 : ∀ w', (Ext W0) w' → w'.cell? ⟨w.heap.size, 1, none⟩ = some (.int .i64 r) := fun w' h => h.cellOf (by rw [hW0]; exact boxed 1 rfl (by simp))
  go_enter Tryd.func5, Tryd.ntmps5
  go_wp2_with fail
  rw [← hW0]
  clear hW0
  refine (in_any _ _ _ _).mono ?_
  rintro e w1 ⟨rfl, rfl⟩
  cases h1 : inB k 0 2
  · have HT := Lib.hid (rt_no (rv_no1 (r := r) h1))
    go_wp2
    go_ret
    exact ⟨st_eq HT.out, hX⟩
  have f1 := e01 W0 (Ext.refl _)
  go_wp2_with fail
  refine (in_any _ _ _ _).mono ?_
  rintro e w1 ⟨rfl, rfl⟩
  cases h2 : inB r 1 5
  · have HT := Lib.hid (rt_no (rv_no2 (k := k) h2))
    go_wp2
    go_ret
    exact ⟨st_eq HT.out, hX⟩
  have HL := Lib.hid (rv_last h1 h2)
  have f0 := e00 W0 (Ext.refl _)
  cases hv : rvB k r
  · have HT := Lib.hid (rt_no hv)
    have hv2 := HL.out.symm.trans hv
    cases h3 : (k == 0) <;> cases h4 : (r == 5)
    all_goals first
    | (exfalso; rw [h3, h4] at hv2; revert hv2; decide)
    | (go_wp2
       go_ret
       exact ⟨st_eq HT.out, hX⟩)
  have HT := Lib.hid (rt_yes hv)
  obtain ⟨⟨k0, k2⟩, r1, r5⟩ := rv_bd hv
  have hv2 := HL.out.symm.trans hv
  have L0 := rw_len r
  have T0 : IntKind.i64.wrap (r - 1) = r - 1 := IntWalk.i64_in _ (by omega)
  have PD := Lib.hid (fun w => numberK_any k w k0 (by omega))
  have s0 : ¬ (9223372036854775807 < 2 + (rwW r).length) := by omega
  have hr := Ext.refl W0
  have hone : (k == 0) = true ∧ (r == 5) = true ∨ (k == 0) = false ∧ (r == 5) = false := by
    cases h3 : (k == 0) <;> cases h4 : (r == 5)
    · exact .inr ⟨rfl, rfl⟩
    · rw [h3, h4] at hv2; cases hv2
    · rw [h3, h4] at hv2; cases hv2
    · exact .inl ⟨rfl, rfl⟩
  clear hv hv2 HL
  generalize dgK k = d at *
  obtain ⟨q, hq⟩ : ∃ q : Nat, (r - 1).toNat = q := ⟨_, rfl⟩
  have PW := Lib.hid (fun w => (words_spec w).mono fun e w' (h : _ ∧ _ ∧ _) => (show e = .returned (.slice (some ⟨w.heap.size, 0, none⟩) 5 5) ∧ w'.cell? ⟨w.heap.size, q, none⟩ = some (St (rwW r)) ∧ Ext w w' from ⟨h.1, hq ▸ h.2.1 r r1 r5, h.2.2⟩))
  generalize rwW r = R at *
  rcases hone with ⟨c1, c2⟩ | ⟨c1, c2⟩
  all_goals
    go_wp2_with fail
    clear c1 c2 f0 f1 h1 h2
    obtain rfl : r = (q : Int) + 1 := by omega
    have i0 : (0 : Int) ≤ (q : Int) := by omega
    have i1 : (q : Int) < 5 := by omega
    have T1 : IntKind.i64.wrap (q : Int) = (q : Int) := IntWalk.i64_in _ (by omega)
    refine wp_region_held_drew (S := fun w' => Ext W0 w') (by kernel_rfl) (by (try dsimp only); exact Ext.drew (Ext.refl W0)) (fun hHeld => ?_)
    have hE : Ext W0 W0.drew := Ext.drew (Ext.refl W0)
    obtain ⟨V0, hV0⟩ : ∃ V0, V0 = W0.drew := ⟨_, rfl⟩
    rw [← hV0] at hE hHeld ⊢
    clear hV0
    refine Ord.K 0 22 ?_; refine Ord.K 5 27 ?_; refine Ord.K 1 23 ?_; refine Ord.K 6 28 ?_; refine Ord.K 7 29 ?_
    refine wpAnyH_ready (rs := [2]) (by kernel_rfl) (by simp) ?_
    refine (AllReadyH.cons rfl (fun K hK => ?_) AllReadyH.nil)
    go_simp
    go_at_call 12
    refine (PD.out _).mono ?_
    rintro e V1 ⟨rfl, hy⟩
    go_wp2_with fail
    have zy := Ext.size hy
    have hE' := hE.trans hy
    refine hK.out _ _ hE' (fun hHeld => ?_)
    clear hK K
    (try simp only [Act.put, Ord.a, Ord.b, Ord.c])
    replace hE := hE'
    clear hE' hy
    refine Ord.K 3 25 ?_
    refine wpAnyH_ready (rs := [4]) (by kernel_rfl) (by simp) ?_
    refine (AllReadyH.cons rfl (fun K hK => ?_) AllReadyH.nil)
    go_simp
    go_at_call 13
    refine (PW.out _).mono ?_
    rintro e V2 ⟨rfl, cw, hy⟩
    go_wp2_with fail
    have zy := Ext.size hy
    have hE' := hE.trans hy
    refine hK.out _ _ hE' (fun hHeld => ?_)
    clear hK K
    (try simp only [Act.put, Ord.a, Ord.b, Ord.c])
    replace hE := hE'
    clear hE' hy
    refine Ord.K 8 30 ?_
    refine wpAnyH_ready (rs := [9]) (by kernel_rfl) (by simp) ?_
    refine (AllReadyH.cons rfl (fun K hK => ?_) AllReadyH.nil)
    go_simp
    refine hK.out _ _ hE (fun hHeld => ?_)
    clear hK K
    (try simp only [Act.put, Ord.a, Ord.b, Ord.c])
    refine Ord.K 10 32 ?_; refine Ord.K 11 2 ?_
    refine wpAnyH_done (by kernel_rfl) ?_ _
    (go_wp2; go_ret; exact ⟨cat_ru HT.out, hX.trans hE⟩)

end Go.Proofs.YtlheppblioglpaaDoor.Rtx
