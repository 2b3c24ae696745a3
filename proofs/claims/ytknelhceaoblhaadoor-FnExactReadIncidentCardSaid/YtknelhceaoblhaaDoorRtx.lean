/- The texts of rulings (chapter 10): RulingText of both. -/
import Derived.Test.YtknelhceaoblhaaDoorRulT
import Derived.Test.YtknelhceaoblhaaDoorRead
import Derived.Test.YtknelhceaoblhaaDoorOrd
import Derived.Deep.LoopGhost
import Derived.Laws.EntriesVeiled
namespace Go.Proofs.YtknelhceaoblhaaDoor.Rtx
open Go.ChangeShapes Go.WideShapes Go.ChangeAt Go.RowKit
open Go.Proofs.YtknelhceaoblhaaDoor.Num Go.Proofs.YtknelhceaoblhaaDoor.Kit Go.Proofs.YtknelhceaoblhaaDoor.Txt Go.Proofs.YtknelhceaoblhaaDoor.TxtMath Go.Proofs.YtknelhceaoblhaaDoor.RulT
set_option linter.unusedVariables false
set_option linter.unusedSimpArgs false

abbrev Ru (k r : Int) : Value := .agg #[.int .i64 k, .int .i64 r]
theorem isReason_any (n : Int) (w : World) : Calls Tryd.prog 44 #[.int .i64 n] w fun e w' => e = .returned (.bool (inB n 1 5)) ∧ w = w' := by
  by_cases h1 : 1 ≤ n
  · by_cases h2 : n ≤ 5
    · have H := Lib.hid (inB_yes h1 h2)
      go_enter Tryd.func44, Tryd.ntmps44
      go_wp2
      go_ret
      exact ⟨ret_bool H.out, rfl⟩
    · have H := Lib.hid (inB_no (n := n) (lo := 1) (hi := 5) (fun h => h2 h.2))
      go_enter Tryd.func44, Tryd.ntmps44
      go_wp2
      go_ret
      exact ⟨ret_bool H.out, rfl⟩
  · have H := Lib.hid (inB_no (n := n) (lo := 1) (hi := 5) (fun h => h1 h.1))
    go_enter Tryd.func44, Tryd.ntmps44
    go_wp2
    go_ret
    exact ⟨ret_bool H.out, rfl⟩
theorem rv_no1 {k r : Int} (h : inB k 0 2 = false) : rvB k r = false := by unfold rvB; rw [h]; rfl
theorem rv_no2 {k r : Int} (h : inB r 1 5 = false) : rvB k r = false := by unfold rvB; rw [h]; simp
theorem rv_last {k r : Int} (h : inB k 0 2 = true) (g : inB r 1 5 = true) : rvB k r = ((k == 0) == (r == 5)) := by unfold rvB; rw [h, g]; rfl

abbrev wordsV : Value := .agg #[St [], St wTurning, St wPortR, St wAstern, St wWindward, St wUnclear]
theorem words_impl (w : World) : Calls Tryd.prog 20 #[] w fun e w' => e = .returned wordsV ∧ Ext w w' := by
  go_enter Tryd.func20, Tryd.ntmps20
  go_wp2
  exact bodyPost_ret (v := wordsV) (by simp [results, Tryd.results20, go_sem]) rfl ⟨rfl, (by repeat (first | exact Ext.refl _ | assumption | apply Ext.alloc | apply Ext.drew | (refine Ext.trans ?_ (by assumption)) | (refine Ext.setNew ?_ (by simp <;> omega) _)))⟩
theorem wx_any {r : Int} (h1 : 1 ≤ r) (h5 : r ≤ 5) (w : World) : (Instr.index 42 wordsV (.int .i64 r)).run Tryd.prog w = .ok (St (rwW r)) w := by
  rcases (show r = 1 ∨ r = 2 ∨ r = 3 ∨ r = 4 ∨ r = 5 by omega) with rfl | rfl | rfl | rfl | rfl
  all_goals simp [Instr.index, run_underlying Tryd.underlying42, asIntOf, go_sem, rwW]
theorem decimalK_any (n : Int) (w : World) (h0 : 0 ≤ n) (h1 : n < 10) (ht : Tab w) : Calls Tryd.prog 18 #[.int .i64 n] w fun e w' => e = .returned (St [dgK n]) ∧ Ext w w' := by
  have K := Lib.hid (Tryd.strconv_FormatInt_10 n (by omega) (by omega) w ht)
  have HI := Lib.hid (show Lib.itoa n = [dgK n] by
    unfold dgK
    obtain ⟨u, rfl⟩ := Int.eq_ofNat_of_zero_le h0
    rw [Lib.itoa_nonneg, Lib.decDigits_one (by omega)]; simp)
  generalize Lib.itoa n = X at *
  go_enter Tryd.func18, Tryd.ntmps18
  go_wp2_with fail
  refine K.out.mono ?_
  rintro e w1 ⟨rfl, k, os, rfl⟩
  go_wp2
  go_ret
  exact ⟨st_eq HI.out.symm, grow_ext w k os⟩
theorem cat_ru {d : UInt8} {R l : List UInt8} (h : l = d :: 32 :: R) : Ending.returned (.string (({ data := #[d] } : ByteArray) ++ { data := #[32] } ++ { data := R.toArray })) = .returned (St l) := by
  rw [h, cat_eq, cat_eq]; simp
theorem rt_no {k r : Int} (h : rvB k r = false) : rtT k r = [] := by unfold rtT; rw [h]; rfl
theorem rt_yes {k r : Int} (h : rvB k r = true) : rtT k r = dgK k :: 32 :: rwW r := by unfold rtT; rw [if_pos h]; rfl
theorem rv_bd {k r : Int} (h : rvB k r = true) : (0 ≤ k ∧ k ≤ 2) ∧ 1 ≤ r ∧ r ≤ 5 := by
  unfold rvB at h
  rw [Bool.and_eq_true, Bool.and_eq_true] at h
  exact ⟨of_inB h.1, of_inB h.2.1⟩
theorem rw_len (r : Int) : (rwW r).length ≤ 8 := by
  unfold rwW
  repeat' split
  all_goals decide

theorem lw_any (r : Int) (h1 : 1 ≤ r) (h5 : r ≤ 5) : ([St wTurning, St wPortR, St wAstern, St wWindward, St wUnclear] : List Value)[(r - 1).toNat]? = some (St (rwW r)) := by
  rcases (show r = 1 ∨ r = 2 ∨ r = 3 ∨ r = 4 ∨ r = 5 by omega) with rfl | rfl | rfl | rfl | rfl <;> rfl
theorem words_spec (w : World) : Calls Tryd.prog 25 #[] w fun e w' => e = .returned (.slice (some ⟨w.heap.size, 0, none⟩) 5 5) ∧ (∀ r : Int, 1 ≤ r → r ≤ 5 → w'.cell? ⟨w.heap.size, (r - 1).toNat, none⟩ = some (St (rwW r))) ∧ Ext w w' := by
  go_enter Tryd.func25, Tryd.ntmps25
  go_wp2
  go_ret
  exact ⟨rfl, fun r h1 h5 => boxed _ (by simpa using lw_any r h1 h5) rfl, (by repeat (first | exact Ext.refl _ | assumption | apply Ext.alloc | apply Ext.drew | (refine Ext.trans ?_ (by assumption)) | (refine Ext.setNew ?_ (by simp <;> omega) _)))⟩
theorem numberK_any (n : Int) (w : World) (h0 : 0 ≤ n) (h : n < 10) : Calls Tryd.prog 24 #[.int .i64 n] w fun e w' => e = .returned (St [dgK n]) ∧ Ext w w' := by
  have HD := Lib.hid (show Lib.decDigits n.toNat = [dgK n] by rw [Lib.decDigits_one (by omega)]; rfl)
  refine (number_any 1 n w h0 (by omega) (by omega)).mono fun e w' ⟨he, hx⟩ => ⟨?_, hx⟩
  rw [he, HD.out]

end Go.Proofs.YtknelhceaoblhaaDoor.Rtx
