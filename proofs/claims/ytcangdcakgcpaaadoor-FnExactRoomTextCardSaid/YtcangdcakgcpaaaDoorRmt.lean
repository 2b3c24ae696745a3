/- The texts of rooms (chapter 11): RoomText of both. -/
import Derived.Test.YtcangdcakgcpaaaDoorRmx
import Derived.Test.YtcangdcakgcpaaaDoorRmT
import Derived.Test.YtcangdcakgcpaaaDoorRead
import Derived.Test.YtcangdcakgcpaaaDoorOrd
import Derived.Deep.LoopGhost
import Derived.Laws.EntriesVeiled
namespace Go.Proofs.YtcangdcakgcpaaaDoor.Rmx
open Go.ChangeShapes Go.WideShapes Go.ChangeAt Go.RowKit
open Go.Proofs.YtcangdcakgcpaaaDoor.Num Go.Proofs.YtcangdcakgcpaaaDoor.Kit Go.Proofs.YtcangdcakgcpaaaDoor.Txt Go.Proofs.YtcangdcakgcpaaaDoor.TxtMath Go.Proofs.YtcangdcakgcpaaaDoor.RmT
set_option linter.unusedVariables false
set_option linter.unusedSimpArgs false

abbrev wordsM : Value := .agg #[St vNone, St vOpposite, St vInside, St vAhead, St vUnclear]
theorem wordsM_impl (w : World) : Calls Tryd.prog 19 #[] w fun e w' => e = .returned wordsM ∧ Ext w w' := by
  go_enter Tryd.func19, Tryd.ntmps19
  go_wp2
  exact bodyPost_ret (v := wordsM) (by simp [results, Tryd.results19, go_sem]) rfl ⟨rfl, (by repeat (first | exact Ext.refl _ | assumption | apply Ext.alloc | apply Ext.drew | (refine Ext.trans ?_ (by assumption)) | (refine Ext.setNew ?_ (by simp <;> omega) _)))⟩
theorem wxM_any {r : Int} (h1 : 0 ≤ r) (h5 : r ≤ 4) (w : World) : (Instr.index 41 wordsM (.int .i64 r)).run Tryd.prog w = .ok (St (mwW r)) w := by
  rcases (show r = 0 ∨ r = 1 ∨ r = 2 ∨ r = 3 ∨ r = 4 by omega) with rfl | rfl | rfl | rfl | rfl
  all_goals simp [Instr.index, run_underlying Tryd.underlying41, asIntOf, go_sem, mwW]
theorem decimalM_any (n : Int) (w : World) (h0 : 0 ≤ n) (h1 : n < 10) (ht : Tab w) : Calls Tryd.prog 18 #[.int .i64 n] w fun e w' => e = .returned (St [dgM n]) ∧ Ext w w' := by
  have K := Lib.hid (Tryd.strconv_FormatInt_10 n (by omega) (by omega) w ht)
  have HI := Lib.hid (show Lib.itoa n = [dgM n] by
    unfold dgM
    obtain ⟨u, rfl⟩ := Int.eq_ofNat_of_zero_le h0
    rw [Lib.itoa_nonneg, Lib.decDigits_one (by omega)]; simp)
  generalize Lib.itoa n = X at *
  go_enter Tryd.func18, Tryd.ntmps18
  go_wp2_with fail
  refine K.out.mono ?_
  rintro e w1 ⟨rfl, k, os, rfl⟩
  go_wp2
  go_ret
  exact ⟨st_eq HI.out.symm, grow_ext w k os⟩
theorem cat_rm {d : UInt8} {R l : List UInt8} (h : l = d :: 32 :: R) : Ending.returned (.string (({ data := #[d] } : ByteArray) ++ { data := #[32] } ++ { data := R.toArray })) = .returned (St l) := by
  rw [h, cat_eq, cat_eq]; simp
theorem mt_no {k r : Int} (h : rmB k r = false) : mtT k r = [] := by unfold mtT; rw [h]; rfl
theorem mt_yes {k r : Int} (h : rmB k r = true) : mtT k r = dgM k :: 32 :: mwW r := by unfold mtT; rw [if_pos h]; rfl
theorem mw_len (r : Int) : (mwW r).length ≤ 8 := by
  unfold mwW
  repeat' split
  all_goals decide

set_option maxHeartbeats 1000000 in
theorem roomText_impl (k r : Int) (w : World) (hE : Tab w) : Calls Tryd.prog 8 #[Rm k r] w fun e w' => e = .returned (St (mtT k r)) ∧ Ext w w' := by
  have HE := Lib.hid hE
  clear hE
  obtain ⟨W0, hW0⟩ : ∃ W0, W0 = w.alloc (.cells #[.int .i64 k, .int .i64 r] 25) := ⟨_, rfl⟩
  have hX : Ext w W0 := hW0 ▸ ((Ext.refl w).alloc _)
  have hs0 : W0.heap.size = w.heap.size + 1 := by rw [hW0]; simp
  have e00 : ∀ w', (Ext W0) w' → w'.cell? ⟨w.heap.size, 0, none⟩ = some (.int .i64 k) := fun w' h => h.cellOf (by rw [hW0]; exact boxed 0 rfl (by simp))
  have e01 : ∀ w', (Ext W0) w' → w'.cell? ⟨w.heap.size, 1, none⟩ = some (.int .i64 r) := fun w' h => h.cellOf (by rw [hW0]; exact boxed 1 rfl (by simp))
  go_enter Tryd.func8, Tryd.ntmps8
  go_wp2_with fail
  rw [← hW0]
  clear hW0
  refine (roomValid_any _ _ _).mono ?_
  rintro e w1 ⟨rfl, hz⟩
  replace hz : Ext W0 w1 := hz
  cases hv : rmB k r
  · have HT := Lib.hid (mt_no hv)
    go_wp2
    go_ret
    exact ⟨st_eq HT.out, hX.trans hz⟩
  have HT := Lib.hid (mt_yes hv)
  obtain ⟨⟨k0, k2⟩, r1, r5⟩ := rm_bd hv
  have hI := fun w => wxM_any r1 r5 w
  have PD := Lib.hid (fun (w' : World) (h : Ext w1 w') => decimalM_any k w' k0 (by omega) (HE.out.ext (hX.trans (hz.trans h))))
  have L0 := mw_len r
  generalize mwW r = R at *
  replace e00 : ∀ w', Ext w1 w' → w'.cell? ⟨w.heap.size, 0, none⟩ = some (.int .i64 k) := fun w' h => e00 w' (hz.trans h)
  replace e01 : ∀ w', Ext w1 w' → w'.cell? ⟨w.heap.size, 1, none⟩ = some (.int .i64 r) := fun w' h => e01 w' (hz.trans h)
  have hr := Ext.refl w1
  have s0 : ¬ (9223372036854775807 < 2 + R.length) := by omega
  generalize dgM k = d at *
  go_wp2_with fail
  refine wp_region_held_drew (S := (fun w' => Ext w1 w')) (by kernel_rfl) (by (try dsimp only); first | go_keep | exact (Ext.refl _).drew | exact Res.new2.drew | exact Res.new4.drew | exact ResB.drew (by assumption) | exact ResC.drew (by assumption) | assumption | exact Ext.drew (by assumption) | exact Res.drew (by assumption)) (fun hHeld => ?_)
  refine Ord.K 0 6 ?_
  refine Ord.K 1 7 ?_
  refine Ord.K 5 11 ?_
  refine Ord.K 6 12 ?_
  (refine wpAnyH_ready (rs := [2]) (by kernel_rfl) (by simp) ?_; refine AllReadyH.cons rfl (fun K hK => ?_) AllReadyH.nil; go_simp; (first | (go_at_call 18; refine (PD.out _ (by assumption)).mono ?_; rintro e w4 ⟨rfl, hy⟩) | (go_at_call 19; refine (wordsM_impl _).mono ?_; rintro e w4 ⟨rfl, hy⟩)); go_wp2_with fail; (refine hK.out _ _ (by first | assumption | exact Ext.trans (by assumption) hy | exact Res.ext (by assumption) hy | exact ResB.ext (by assumption) hy | exact ResC.ext (by assumption) hy | (go_split_ands; (repeat' apply And.intro) <;> exact Ext.cellOf hy (by assumption))) (fun hHeld => ?_)); clear hK K; (try simp only [Act.put, Ord.a, Ord.b, Ord.c]))
  refine Ord.K 3 9 ?_
  (refine wpAnyH_ready (rs := [4]) (by kernel_rfl) (by simp) ?_; refine AllReadyH.cons rfl (fun K hK => ?_) AllReadyH.nil; go_simp; (first | (go_at_call 18; refine (PD.out _ (by assumption)).mono ?_; rintro e w4 ⟨rfl, hy⟩) | (go_at_call 19; refine (wordsM_impl _).mono ?_; rintro e w4 ⟨rfl, hy⟩)); go_wp2_with fail; (refine hK.out _ _ (by first | assumption | exact Ext.trans (by assumption) hy | exact Res.ext (by assumption) hy | exact ResB.ext (by assumption) hy | exact ResC.ext (by assumption) hy | (go_split_ands; (repeat' apply And.intro) <;> exact Ext.cellOf hy (by assumption))) (fun hHeld => ?_)); clear hK K; (try simp only [Act.put, Ord.a, Ord.b, Ord.c]))
  refine Ord.K 7 13 ?_
  refine Ord.K 8 14 ?_
  refine Ord.K 9 2 ?_
  refine wpAnyH_done (by kernel_rfl) ?_ _
  go_wp2
  go_ret
  exact ⟨cat_rm HT.out, hX.trans (hz.trans (by assumption))⟩

theorem lwM_any (r : Int) (h1 : 0 ≤ r) (h5 : r ≤ 4) : ([St vNone, St vOpposite, St vInside, St vAhead, St vUnclear] : List Value)[r.toNat]? = some (St (mwW r)) := by
  rcases (show r = 0 ∨ r = 1 ∨ r = 2 ∨ r = 3 ∨ r = 4 by omega) with rfl | rfl | rfl | rfl | rfl <;> rfl
theorem wordsM_spec (w : World) : Calls Tryd.prog 25 #[] w fun e w' => e = .returned (.slice (some ⟨w.heap.size, 0, none⟩) 5 5) ∧ (∀ r : Int, 0 ≤ r → r ≤ 4 → w'.cell? ⟨w.heap.size, r.toNat, none⟩ = some (St (mwW r))) ∧ Ext w w' := by
  go_enter Tryd.func25, Tryd.ntmps25
  go_wp2
  go_ret
  exact ⟨rfl, fun r h1 h5 => boxed _ (by simpa using lwM_any r h1 h5) rfl, (by repeat (first | exact Ext.refl _ | assumption | apply Ext.alloc | apply Ext.drew | (refine Ext.trans ?_ (by assumption)) | (refine Ext.setNew ?_ (by simp <;> omega) _)))⟩
theorem numberM_any (n : Int) (w : World) (h0 : 0 ≤ n) (h : n < 10) : Calls Tryd.prog 24 #[.int .i64 n] w fun e w' => e = .returned (St [dgM n]) ∧ Ext w w' := by
  have HD := Lib.hid (show Lib.decDigits n.toNat = [dgM n] by rw [Lib.decDigits_one (by omega)]; rfl)
  refine (number_any 1 n w h0 (by omega) (by omega)).mono fun e w' ⟨he, hx⟩ => ⟨?_, hx⟩
  rw [he, HD.out]

set_option maxHeartbeats 2000000 in
theorem roomText_spec (k r : Int) (w : World) : Calls Tryd.prog 10 #[Rm k r] w fun e w' => e = .returned (St (mtT k r)) ∧ Ext w w' := by
  obtain ⟨W0, hW0⟩ : ∃ W0, W0 = w.alloc (.cells #[.int .i64 k, .int .i64 r] 25) := ⟨_, rfl⟩
  have hX : Ext w W0 := hW0 ▸ ((Ext.refl w).alloc _)
  have hs0 : W0.heap.size = w.heap.size + 1 := by rw [hW0]; simp
  have e00 : ∀ w', (Ext W0) w' → w'.cell? ⟨w.heap.size, 0, none⟩ = some (.int .i64 k) := fun w' h => h.cellOf (by rw [hW0]; exact boxed 0 rfl (by simp))
  have e01 : ∀ w', (Ext W0) w' → w'.cell? ⟨w.heap.size, 1, none⟩ = some (.int .i64 r) := fun w' h => h.cellOf (by rw [hW0]; exact boxed 1 rfl (by simp))
  go_enter Tryd.func10, Tryd.ntmps10
  go_wp2_with fail
  rw [← hW0]
  clear hW0
  refine (isRoom_spec _ _ _).mono ?_
  rintro e w1 ⟨rfl, hz⟩
  replace hz : Ext W0 w1 := hz
  cases hv : rmB k r
  · have HT := Lib.hid (mt_no hv)
    go_wp2
    go_ret
    exact ⟨st_eq HT.out, hX.trans hz⟩
  have HT := Lib.hid (mt_yes hv)
  obtain ⟨⟨k0, k2⟩, r1, r5⟩ := rm_bd hv
  have L0 := mw_len r
  have PD := Lib.hid (fun w => numberM_any k w k0 (by omega))
  have s0 : ¬ (9223372036854775807 < 2 + (mwW r).length) := by omega
  replace e00 : ∀ w', Ext w1 w' → w'.cell? ⟨w.heap.size, 0, none⟩ = some (.int .i64 k) := fun w' h => e00 w' (hz.trans h)
  replace e01 : ∀ w', Ext w1 w' → w'.cell? ⟨w.heap.size, 1, none⟩ = some (.int .i64 r) := fun w' h => e01 w' (hz.trans h)
  have hr := Ext.refl w1
  clear hv
  generalize dgM k = d at *
  obtain ⟨q, hq⟩ : ∃ q : Nat, r.toNat = q := ⟨_, rfl⟩
  have PW := Lib.hid (fun w => (wordsM_spec w).mono fun e w' (h : _ ∧ _ ∧ _) => (show e = .returned (.slice (some ⟨w.heap.size, 0, none⟩) 5 5) ∧ w'.cell? ⟨w.heap.size, q, none⟩ = some (St (mwW r)) ∧ Ext w w' from ⟨h.1, hq ▸ h.2.1 r r1 r5, h.2.2⟩))
  generalize mwW r = R at *
  obtain rfl : r = (q : Int) := by omega
  have i0 : (0 : Int) ≤ (q : Int) := by omega
  have i1 : (q : Int) < 5 := by omega
  have T1 : IntKind.i64.wrap (q : Int) = (q : Int) := IntWalk.i64_in _ (by omega)
  go_wp2_with fail
  refine wp_region_held_drew (S := fun w' => Ext w1 w') (by kernel_rfl) (by (try dsimp only); exact Ext.drew (Ext.refl w1)) (fun hHeld => ?_)
  have hE : Ext w1 w1.drew := Ext.drew (Ext.refl w1)
  obtain ⟨V0, hV0⟩ : ∃ V0, V0 = w1.drew := ⟨_, rfl⟩
  rw [← hV0] at hE hHeld ⊢
  clear hV0
  refine Ord.K 0 6 ?_; refine Ord.K 5 11 ?_; refine Ord.K 1 7 ?_; refine Ord.K 6 12 ?_
  refine wpAnyH_ready (rs := [2]) (by kernel_rfl) (by simp) ?_
  refine (AllReadyH.cons rfl (fun K hK => ?_) AllReadyH.nil)
  go_simp
  go_at_call 24
  refine (PD.out _).mono ?_
  rintro e V1 ⟨rfl, hy⟩
  go_wp2_with fail
  have zy := Ext.size hy
  have hE' := hE.trans hy
  refine hK.out _ _ hE' (fun hHeld => ?_)
  clear hK K
  (try simp only [Act.put, Ord.a, Ord.b, Ord.c])
  replace hE := hE'
  clear hE' hy
  refine Ord.K 3 9 ?_
  refine wpAnyH_ready (rs := [4]) (by kernel_rfl) (by simp) ?_
  refine (AllReadyH.cons rfl (fun K hK => ?_) AllReadyH.nil)
  go_simp
  go_at_call 25
  refine (PW.out _).mono ?_
  rintro e V2 ⟨rfl, cw, hy⟩
  go_wp2_with fail
  have zy := Ext.size hy
  have hE' := hE.trans hy
  refine hK.out _ _ hE' (fun hHeld => ?_)
  clear hK K
  (try simp only [Act.put, Ord.a, Ord.b, Ord.c])
  replace hE := hE'
  clear hE' hy
  refine Ord.K 7 13 ?_
  refine wpAnyH_ready (rs := [8]) (by kernel_rfl) (by simp) ?_
  refine (AllReadyH.cons rfl (fun K hK => ?_) AllReadyH.nil)
  go_simp
  refine hK.out _ _ hE (fun hHeld => ?_)
  clear hK K
  (try simp only [Act.put, Ord.a, Ord.b, Ord.c])
  refine Ord.K 9 15 ?_; refine Ord.K 10 2 ?_
  refine wpAnyH_done (by kernel_rfl) ?_ _
  (go_wp2; go_ret; exact ⟨cat_rm HT.out, hX.trans (hz.trans hE)⟩)

end Go.Proofs.YtcangdcakgcpaaaDoor.Rmx
