/- The texts of incidents (chapter 12): IncidentText of both. -/
import Derived.Test.YtknelhceaoblhaaDoorIncT
import Derived.Test.YtknelhceaoblhaaDoorRtx
import Derived.Test.YtknelhceaoblhaaDoorCel
import Derived.Deep.LoopGhost
import Derived.Laws.EntriesVeiled
import Derived.Maps.AppendAt
import Derived.Deep.DeepCutAuto
namespace Go.Proofs.YtknelhceaoblhaaDoor.Itx
open Go.ChangeShapes Go.WideShapes Go.ChangeAt Go.RowKit Go.PlainAid
open Go.Proofs.YtknelhceaoblhaaDoor.Num Go.Proofs.YtknelhceaoblhaaDoor.Kit Go.Proofs.YtknelhceaoblhaaDoor.Txt Go.Proofs.YtknelhceaoblhaaDoor.TxtMath Go.Proofs.YtknelhceaoblhaaDoor.RulT Go.Proofs.YtknelhceaoblhaaDoor.IncT
open Go.Proofs.YtknelhceaoblhaaDoor.Iv (I5 V5)
open Go.Proofs.YtknelhceaoblhaaDoor.Rtx (isReason_any words_impl words_spec wx_any rw_len wordsV)
set_option linter.unusedVariables false
set_option linter.unusedSimpArgs false

theorem kp_one {x : I5} (h : x.k = -1) : kpB x = (x.r == 5) := if_pos h
theorem kp_two {x : I5} (h : ¬ x.k = -1) (g : x.k = x.f ∨ x.k = x.s) : kpB x = inB x.r 1 4 := by unfold kpB; rw [if_neg h, if_pos g]
theorem kp_no {x : I5} (h : ¬ x.k = -1) (g : ¬ (x.k = x.f ∨ x.k = x.s)) : kpB x = false := by unfold kpB; rw [if_neg h, if_neg g]
theorem r14 (r : Int) : inB r 1 4 = (inB r 1 5 && (r != 5)) := by
  unfold inB
  by_cases h : 1 ≤ r ∧ r ≤ 5
  · by_cases g : r = 5
    · subst g; decide
    · rw [decide_eq_true (show 1 ≤ r ∧ r ≤ 4 by omega), decide_eq_true h]; simp [g]
  · rw [decide_eq_false (show ¬ (1 ≤ r ∧ r ≤ 4) by omega), decide_eq_false h]; rfl

set_option maxHeartbeats 1000000 in
theorem keeper_any (x : I5) (w : World) : Calls Tryd.prog 31 #[x.v] w fun e w' => e = .returned (.bool (kpB x)) ∧ Ext w w' := by
  obtain ⟨t, f, s, k, r⟩ := x
  have KR := Lib.hid (fun w => isReason_any r w)
  have H14 := Lib.hid (r14 r)
  by_cases h1 : k = -1
  · have H := Lib.hid (kp_one (x := ⟨t, f, s, k, r⟩) h1)
    have c1 : (k == -1) = true := beq_iff_eq.2 h1
    clear h1
    go_enter Tryd.func31, Tryd.ntmps31
    go_wp2
    go_ret
    exact ⟨ret_bool H.out, (by repeat (first | exact Ext.refl _ | assumption | apply Ext.alloc | apply Ext.drew | (refine Ext.trans ?_ (by assumption)) | (refine Ext.setNew ?_ (by simp <;> omega) _)))⟩
  have c1 : (k == -1) = false := beq_eq_false_iff_ne.2 h1
  by_cases h2 : k = f
  · have H := Lib.hid ((kp_two (x := ⟨t, f, s, k, r⟩) h1 (.inl h2)).trans H14.out)
    have c2 : (k == f) = true := beq_iff_eq.2 h2
    cases h5 : inB r 1 5
    · rw [h5] at H
      go_enter Tryd.func31, Tryd.ntmps31
      go_wp2_with (go_at_call 44; refine (KR.out _).mono ?_; rw [h5]; rintro e w1 ⟨rfl, rfl⟩)
      go_ret
      exact ⟨ret_bool H.out, (by repeat (first | exact Ext.refl _ | assumption | apply Ext.alloc | apply Ext.drew | (refine Ext.trans ?_ (by assumption)) | (refine Ext.setNew ?_ (by simp <;> omega) _)))⟩
    · rw [h5] at H
      go_enter Tryd.func31, Tryd.ntmps31
      go_wp2_with (go_at_call 44; refine (KR.out _).mono ?_; rw [h5]; rintro e w1 ⟨rfl, rfl⟩)
      go_ret
      exact ⟨ret_bool H.out, (by repeat (first | exact Ext.refl _ | assumption | apply Ext.alloc | apply Ext.drew | (refine Ext.trans ?_ (by assumption)) | (refine Ext.setNew ?_ (by simp <;> omega) _)))⟩
  have c2 : (k == f) = false := beq_eq_false_iff_ne.2 h2
  by_cases h3 : k = s
  · have H := Lib.hid ((kp_two (x := ⟨t, f, s, k, r⟩) h1 (.inr h3)).trans H14.out)
    have c3 : (k == s) = true := beq_iff_eq.2 h3
    cases h5 : inB r 1 5
    · rw [h5] at H
      go_enter Tryd.func31, Tryd.ntmps31
      go_wp2_with (go_at_call 44; refine (KR.out _).mono ?_; rw [h5]; rintro e w1 ⟨rfl, rfl⟩)
      go_ret
      exact ⟨ret_bool H.out, (by repeat (first | exact Ext.refl _ | assumption | apply Ext.alloc | apply Ext.drew | (refine Ext.trans ?_ (by assumption)) | (refine Ext.setNew ?_ (by simp <;> omega) _)))⟩
    · rw [h5] at H
      go_enter Tryd.func31, Tryd.ntmps31
      go_wp2_with (go_at_call 44; refine (KR.out _).mono ?_; rw [h5]; rintro e w1 ⟨rfl, rfl⟩)
      go_ret
      exact ⟨ret_bool H.out, (by repeat (first | exact Ext.refl _ | assumption | apply Ext.alloc | apply Ext.drew | (refine Ext.trans ?_ (by assumption)) | (refine Ext.setNew ?_ (by simp <;> omega) _)))⟩
  · have H := Lib.hid (kp_no (x := ⟨t, f, s, k, r⟩) h1 (fun h => h.elim h2 h3))
    have c3 : (k == s) = false := beq_eq_false_iff_ne.2 h3
    go_enter Tryd.func31, Tryd.ntmps31
    go_wp2
    go_ret
    exact ⟨ret_bool H.out, (by repeat (first | exact Ext.refl _ | assumption | apply Ext.alloc | apply Ext.drew | (refine Ext.trans ?_ (by assumption)) | (refine Ext.setNew ?_ (by simp <;> omega) _)))⟩

theorem ii_one {x : I5} (h : inB x.t 0 1000000000 = false) : iiB x = false := by unfold iiB; rw [h]; rfl
theorem ii_two {x : I5} (h : ¬ (0 ≤ x.f ∧ x.f < x.s ∧ x.s < 16)) : iiB x = false := by
  unfold iiB
  rw [show bsB x = false by unfold bsB; simp; omega]; simp
theorem ii_all {x : I5} (h : inB x.t 0 1000000000 = true) (g : 0 ≤ x.f ∧ x.f < x.s ∧ x.s < 16) : iiB x = kpB x := by
  unfold iiB
  rw [h, show bsB x = true by unfold bsB; simp; omega]; rfl

set_option maxHeartbeats 2000000 in
theorem incValid_any (x : I5) (w : World) : Calls Tryd.prog 16 #[x.v] w fun e w' => e = .returned (.bool (iiB x)) ∧ Ext w w' := by
  have KT := Lib.hid (fun w => Txt.isTime_any x.t w)
  have KK := Lib.hid (fun w => keeper_any x w)
  have H1 := Lib.hid (ii_one (x := x))
  have H2 := Lib.hid (ii_two (x := x))
  have H3 := Lib.hid (ii_all (x := x))
  obtain ⟨t, f, s, k, r⟩ := x
  generalize iiB ⟨t, f, s, k, r⟩ = V at *
  generalize kpB ⟨t, f, s, k, r⟩ = K at *
  cases h1 : inB t 0 1000000000
  · have H := Lib.hid (H1.out h1)
    go_enter Tryd.func16, Tryd.ntmps16
    go_wp2_with (go_at_call 30; refine (KT.out _).mono ?_; rw [h1]; rintro e w1 ⟨rfl, rfl⟩)
    go_ret
    exact ⟨ret_bool H.out, (by repeat (first | exact Ext.refl _ | assumption | apply Ext.alloc | apply Ext.drew | (refine Ext.trans ?_ (by assumption)) | (refine Ext.setNew ?_ (by simp <;> omega) _)))⟩
  by_cases a1 : 0 ≤ f
  rotate_left
  · have H := Lib.hid (H2.out (fun h => a1 h.1))
    go_enter Tryd.func16, Tryd.ntmps16
    go_wp2_with (go_at_call 30; refine (KT.out _).mono ?_; rw [h1]; rintro e w1 ⟨rfl, rfl⟩)
    go_ret
    exact ⟨ret_bool H.out, (by repeat (first | exact Ext.refl _ | assumption | apply Ext.alloc | apply Ext.drew | (refine Ext.trans ?_ (by assumption)) | (refine Ext.setNew ?_ (by simp <;> omega) _)))⟩
  by_cases a2 : f < s
  rotate_left
  · have H := Lib.hid (H2.out (fun h => a2 h.2.1))
    go_enter Tryd.func16, Tryd.ntmps16
    go_wp2_with (go_at_call 30; refine (KT.out _).mono ?_; rw [h1]; rintro e w1 ⟨rfl, rfl⟩)
    go_ret
    exact ⟨ret_bool H.out, (by repeat (first | exact Ext.refl _ | assumption | apply Ext.alloc | apply Ext.drew | (refine Ext.trans ?_ (by assumption)) | (refine Ext.setNew ?_ (by simp <;> omega) _)))⟩
  by_cases a3 : s < 16
  rotate_left
  · have H := Lib.hid (H2.out (fun h => a3 h.2.2))
    go_enter Tryd.func16, Tryd.ntmps16
    go_wp2_with (go_at_call 30; refine (KT.out _).mono ?_; rw [h1]; rintro e w1 ⟨rfl, rfl⟩)
    go_ret
    exact ⟨ret_bool H.out, (by repeat (first | exact Ext.refl _ | assumption | apply Ext.alloc | apply Ext.drew | (refine Ext.trans ?_ (by assumption)) | (refine Ext.setNew ?_ (by simp <;> omega) _)))⟩
  have H := Lib.hid (H3.out h1 ⟨a1, a2, a3⟩)
  go_enter Tryd.func16, Tryd.ntmps16
  go_wp2_with (go_at_call 30; refine (KT.out _).mono ?_; rw [h1]; rintro e w1 ⟨rfl, rfl⟩)
  refine (KK.out _).mono ?_
  rintro e w2 ⟨rfl, hy⟩
  cases K
  all_goals
    go_wp2
    go_ret
    exact ⟨ret_bool H.out, Ext.trans (by repeat (first | exact Ext.refl _ | assumption | apply Ext.alloc | apply Ext.drew | (refine Ext.trans ?_ (by assumption)) | (refine Ext.setNew ?_ (by simp <;> omega) _))) hy⟩

/-- The number of a boat, and -1. -/
theorem decimalN_any (n : Int) (w : World) (h0 : 0 ≤ n) (h1 : n < 16) (ht : Tab w) : Calls Tryd.prog 18 #[.int .i64 n] w fun e w' => e = .returned (St (nmW n)) ∧ Ext w w' := by
  have K := Lib.hid (Tryd.strconv_FormatInt_10 n (by omega) (by omega) w ht)
  have HI := Lib.hid (show Lib.itoa n = nmW n by
    rw [num_nat h0 h1]
    obtain ⟨u, rfl⟩ := Int.eq_ofNat_of_zero_le h0
    rw [Lib.itoa_nonneg]; rfl)
  generalize Lib.itoa n = X at *
  go_enter Tryd.func18, Tryd.ntmps18
  go_wp2_with fail
  refine K.out.mono ?_
  rintro e w1 ⟨rfl, k, os, rfl⟩
  go_wp2
  go_ret
  exact ⟨st_eq HI.out.symm, grow_ext w k os⟩
theorem decimalM1 (w : World) (ht : Tab w) : Calls Tryd.prog 18 #[.int .i64 (-1)] w fun e w' => e = .returned (St [45, 49]) ∧ Ext w w' := by
  have K := Lib.hid (Tryd.strconv_FormatInt_10 (-1) (by omega) (by omega) w ht)
  have HI := Lib.hid (show Lib.itoa (-1) = [45, 49] by
    rw [show (-1 : Int) = -((1 : Nat) : Int) from rfl, Lib.itoa_neg 1 (by omega), Lib.decDigits_one (by omega)]; rfl)
  generalize Lib.itoa (-1) = X at *
  go_enter Tryd.func18, Tryd.ntmps18
  go_wp2_with fail
  refine K.out.mono ?_
  rintro e w1 ⟨rfl, k, os, rfl⟩
  go_wp2
  go_ret
  exact ⟨st_eq HI.out.symm, grow_ext w k os⟩
theorem numberN_any (n : Int) (w : World) (h0 : 0 ≤ n) (h : n < 16) : Calls Tryd.prog 24 #[.int .i64 n] w fun e w' => e = .returned (St (nmW n)) ∧ Ext w w' := by
  refine (number_any 2 n w h0 (by omega) (by omega)).mono fun e w' ⟨he, hx⟩ => ⟨?_, hx⟩
  rw [he, num_nat h0 h]
theorem tm_len {t : Int} (h0 : 0 ≤ t) (h1 : t ≤ 1000000000) : (tmT t).length ≤ 30 := by
  have e : tmT t = tmL t := if_pos ⟨h0, h1⟩
  rw [e]
  unfold tmL
  have := dec_len (t / 60000).toNat (by omega)
  simp only [List.length_append, dgs_len, List.length_cons, List.length_nil]
  omega

theorem cat3 {A B C l : List UInt8} (h : l = A ++ 32 :: (B ++ 32 :: (C ++ [32]))) : ((({ data := A.toArray } : ByteArray) ++ { data := #[32] } ++ { data := B.toArray } ++ { data := #[32] } ++ { data := C.toArray } ++ { data := #[32] })) = ⟨l.toArray⟩ := by
  rw [h, cat_eq, cat_eq, cat_eq, cat_eq, cat_eq]; simp
/-- The text up to the keeper. -/
def itH (x : I5) : List UInt8 := tmT x.t ++ 32 :: (nmW x.f ++ 32 :: (nmW x.s ++ [32]))
theorem ith_len {x : I5} (h0 : 0 ≤ x.t) (h1 : x.t ≤ 1000000000) : (itH x).length ≤ 40 := by
  have := tm_len h0 h1
  have := nm_len x.f
  have := nm_len x.s
  unfold itH
  simp only [List.length_append, List.length_cons, List.length_nil]
  omega
theorem it_one {x : I5} (h : x.k = -1) : itL x = itH x ++ rwW x.r := by unfold itL itH itK; rw [if_pos h]; simp
theorem it_two {x : I5} (h : ¬ x.k = -1) : itL x = itH x ++ (nmW x.k ++ 32 :: rwW x.r) := by unfold itL itH itK; rw [if_neg h]; simp
theorem cat_a {A B l : List UInt8} (h : l = A ++ B) : Ending.returned (.string (({ data := A.toArray } : ByteArray) ++ { data := B.toArray })) = .returned (St l) := by rw [h, cat_eq]
theorem cat_b {A B C l : List UInt8} (h : l = A ++ (B ++ 32 :: C)) : Ending.returned (.string (({ data := A.toArray } : ByteArray) ++ { data := B.toArray } ++ { data := #[32] } ++ { data := C.toArray })) = .returned (St l) := by
  rw [h, cat_eq, cat_eq, cat_eq]; simp

set_option maxRecDepth 100000 in
set_option maxHeartbeats 4000000 in
theorem incText_spec (x : I5) (w : World) : Calls Tryd.prog 10 #[x.v] w fun e w' => e = .returned (St (itT x)) ∧ Ext w w' := by
  have H1 := Lib.hid (fun h => it_no (ii_one (x := x) h))
  have H2 := Lib.hid (fun h => it_no (ii_two (x := x) h))
  have H3 := Lib.hid (ii_all (x := x))
  have H4 := Lib.hid (fun h => it_no (x := x) h)
  have H5 := Lib.hid (fun h => it_yes (x := x) h)
  have K1 := Lib.hid (kp_one (x := x))
  have K2 := Lib.hid (kp_two (x := x))
  have K3 := Lib.hid (kp_no (x := x))
  have I1 := Lib.hid (it_one (x := x))
  have I2 := Lib.hid (it_two (x := x))
  have IL := Lib.hid (ith_len (x := x))
  have IE := Lib.hid (show itH x = tmT x.t ++ 32 :: (nmW x.f ++ 32 :: (nmW x.s ++ [32])) from rfl)
  obtain ⟨t, f, s, k, r⟩ := x
  generalize itT ⟨t, f, s, k, r⟩ = T at *
  generalize itL ⟨t, f, s, k, r⟩ = L at *
  generalize iiB ⟨t, f, s, k, r⟩ = V at *
  generalize kpB ⟨t, f, s, k, r⟩ = K at *
  generalize itH ⟨t, f, s, k, r⟩ = U at *
  obtain ⟨W0, hW0⟩ : ∃ W0, W0 = w.alloc (.cells #[.int .i64 t, .int .i64 f, .int .i64 s, .int .i64 k, .int .i64 r] 25) := ⟨_, rfl⟩
  have hX : Ext w W0 := hW0 ▸ ((Ext.refl w).alloc _)
  have hs0 : W0.heap.size = w.heap.size + 1 := by rw [hW0]; simp
  have e00 : ∀ w', (Ext W0) w' → w'.cell? ⟨w.heap.size, 0, none⟩ = some (.int .i64 t) := fun w' h => h.cellOf (by rw [hW0]; exact boxed 0 rfl (by simp))
  have e01 : ∀ w', (Ext W0) w' → w'.cell? ⟨w.heap.size, 1, none⟩ = some (.int .i64 f) := fun w' h => h.cellOf (by rw [hW0]; exact boxed 1 rfl (by simp))
  have e02 : ∀ w', (Ext W0) w' → w'.cell? ⟨w.heap.size, 2, none⟩ = some (.int .i64 s) := fun w' h => h.cellOf (by rw [hW0]; exact boxed 2 rfl (by simp))
  have e03 : ∀ w', (Ext W0) w' → w'.cell? ⟨w.heap.size, 3, none⟩ = some (.int .i64 k) := fun w' h => h.cellOf (by rw [hW0]; exact boxed 3 rfl (by simp))
  have e04 : ∀ w', (Ext W0) w' → w'.cell? ⟨w.heap.size, 4, none⟩ = some (.int .i64 r) := fun w' h => h.cellOf (by rw [hW0]; exact boxed 4 rfl (by simp))
  go_enter Tryd.func10, Tryd.ntmps10
  go_wp2_with fail
  rw [← hW0]
  refine (in_any _ _ _ _).mono ?_
  rintro e w1 ⟨rfl, rfl⟩
  have f1 := e01 W0 (Ext.refl _)
  have f2 := e02 W0 (Ext.refl _)
  clear hW0
  cases h1 : inB t 0 1000000000
  · have H := Lib.hid (H1.out h1)
    go_wp2
    go_ret
    exact ⟨st_eq H.out, hX⟩
  by_cases a1 : 0 ≤ f
  rotate_left
  · have H := Lib.hid (H2.out (fun h => a1 h.1))
    have a1b : f < 0 := by omega
    go_wp2
    go_ret
    exact ⟨st_eq H.out, hX⟩
  have a1b : ¬ f < 0 := by omega
  by_cases a2 : f < s
  rotate_left
  · have H := Lib.hid (H2.out (fun h => a2 h.2.1))
    have a2b : s ≤ f := by omega
    go_wp2
    go_ret
    exact ⟨st_eq H.out, hX⟩
  have a2b : ¬ s ≤ f := by omega
  by_cases a3 : s < 16
  rotate_left
  · have H := Lib.hid (H2.out (fun h => a3 h.2.2))
    have a3b : 16 ≤ s := by omega
    go_wp2
    go_ret
    exact ⟨st_eq H.out, hX⟩
  have a3b : ¬ 16 ≤ s := by omega
  have HV := Lib.hid (H3.out h1 ⟨a1, a2, a3⟩)
  have ht := of_inB h1
  have hUL := IL.out ht.1 ht.2
  have PT := Lib.hid (fun w => time_any t w ht.1 ht.2)
  have PF := Lib.hid (fun w => numberN_any f w a1 (by omega))
  have PS := Lib.hid (fun w => numberN_any s w (by omega) a3)
  have HTm := Lib.hid (show tmT t = tmL t from if_pos ht)
  rw [HTm.out] at IE
  have lt0 := tm_len ht.1 ht.2
  rw [HTm.out] at lt0
  have lf := nm_len f
  have ls := nm_len s
  generalize tmL t = A at *
  generalize hB : nmW f = B at *
  generalize hC : nmW s = C at *
  have hr := Ext.refl W0
  have s0 : ¬ (9223372036854775807 < A.length + 1) := by omega
  have s1 : ¬ (9223372036854775807 < A.length + 1 + B.length) := by omega
  have s2 : ¬ (9223372036854775807 < A.length + 1 + B.length + 1) := by omega
  have s3 : ¬ (9223372036854775807 < A.length + 1 + B.length + 1 + C.length) := by omega
  have s4 : ¬ (9223372036854775807 < A.length + 1 + B.length + 1 + C.length + 1) := by omega
  clear H1 H2 H3 h1 IL f1 f2 hB hC
  go_upto_region 3 with fail
  refine wp_region_held_drew (S := (fun w' => Ext W0 w')) (by kernel_rfl) (by (try dsimp only); first | go_keep | exact (Ext.refl _).drew | exact Res.new2.drew | exact Res.new4.drew | exact ResB.drew (by assumption) | exact ResC.drew (by assumption) | assumption | exact Ext.drew (by assumption) | exact Res.drew (by assumption)) (fun hHeld => ?_)
  refine Ord.K 0 25 ?_
  refine Ord.K 1 26 ?_
  refine Ord.K 4 29 ?_
  refine Ord.K 5 30 ?_
  refine Ord.K 9 34 ?_
  refine Ord.K 10 35 ?_
  (refine wpAnyH_ready (rs := [2]) (by kernel_rfl) (by simp) ?_; refine AllReadyH.cons rfl (fun K hK => ?_) AllReadyH.nil; go_simp; (first | (go_at_call 23; refine (PT.out _).mono ?_; rintro e w4 ⟨rfl, hy⟩) | (go_at_call 24; with_reducible refine (PF.out _).mono ?_; rintro e w5 ⟨rfl, hy⟩) | (go_at_call 24; with_reducible refine (PS.out _).mono ?_; rintro e w6 ⟨rfl, hy⟩)); go_wp2_with fail; (refine hK.out _ _ (by first | assumption | exact Ext.trans (by assumption) hy | exact Res.ext (by assumption) hy | exact ResB.ext (by assumption) hy | exact ResC.ext (by assumption) hy | (go_split_ands; (repeat' apply And.intro) <;> exact Ext.cellOf hy (by assumption))) (fun hHeld => ?_)); clear hK K; (try simp only [Act.put, Ord.a, Ord.b, Ord.c]))
  refine Ord.K 3 28 ?_
  (refine wpAnyH_ready (rs := [6]) (by kernel_rfl) (by simp) ?_; refine AllReadyH.cons rfl (fun K hK => ?_) AllReadyH.nil; go_simp; (first | (go_at_call 23; refine (PT.out _).mono ?_; rintro e w4 ⟨rfl, hy⟩) | (go_at_call 24; with_reducible refine (PF.out _).mono ?_; rintro e w5 ⟨rfl, hy⟩) | (go_at_call 24; with_reducible refine (PS.out _).mono ?_; rintro e w6 ⟨rfl, hy⟩)); go_wp2_with fail; (refine hK.out _ _ (by first | assumption | exact Ext.trans (by assumption) hy | exact Res.ext (by assumption) hy | exact ResB.ext (by assumption) hy | exact ResC.ext (by assumption) hy | (go_split_ands; (repeat' apply And.intro) <;> exact Ext.cellOf hy (by assumption))) (fun hHeld => ?_)); clear hK K; (try simp only [Act.put, Ord.a, Ord.b, Ord.c]))
  refine Ord.K 7 32 ?_
  refine Ord.K 8 33 ?_
  (refine wpAnyH_ready (rs := [11]) (by kernel_rfl) (by simp) ?_; refine AllReadyH.cons rfl (fun K hK => ?_) AllReadyH.nil; go_simp; (first | (go_at_call 23; refine (PT.out _).mono ?_; rintro e w4 ⟨rfl, hy⟩) | (go_at_call 24; with_reducible refine (PF.out _).mono ?_; rintro e w5 ⟨rfl, hy⟩) | (go_at_call 24; with_reducible refine (PS.out _).mono ?_; rintro e w6 ⟨rfl, hy⟩)); go_wp2_with fail; (refine hK.out _ _ (by first | assumption | exact Ext.trans (by assumption) hy | exact Res.ext (by assumption) hy | exact ResB.ext (by assumption) hy | exact ResC.ext (by assumption) hy | (go_split_ands; (repeat' apply And.intro) <;> exact Ext.cellOf hy (by assumption))) (fun hHeld => ?_)); clear hK K; (try simp only [Act.put, Ord.a, Ord.b, Ord.c]))
  refine Ord.K 12 37 ?_
  refine Ord.K 13 38 ?_
  refine Ord.K 14 3 ?_
  refine wpAnyH_done (by kernel_rfl) ?_ _
  have X6 : Ext W0 w6 := hHeld
  have c3 := e03 w6 X6
  have c4 := e04 w6 X6
  have d1 : ∀ w', Ext w6 w' → w'.cell? ⟨w.heap.size, 1, none⟩ = some (.int .i64 f) := fun w' h => e01 w' (X6.trans h)
  have EU := Lib.hid (cat3 IE)
  clear hHeld hy hr s0 s1 s2 s3 s4
  by_cases k1 : k = -1
  · have b1 : (k == -1) = true := beq_iff_eq.2 k1
    have HK := Lib.hid (HV.out.trans (K1.out k1))
    by_cases k2 : r = 5
    · have b2 : (r == 5) = true := beq_iff_eq.2 k2
      have H := Lib.hid ((H5.out (by rw [HK.out]; exact b2)).trans (I1.out k1))
      have HR := Lib.hid (show rwW r = wUnclear by rw [k2]; rfl)
      have u0 : ¬ (9223372036854775807 < U.length + 7) := by omega
      clear k1 k2
      go_upto_region 5 with fail
      rw [EU.out]
      go_wp2
      go_ret
      exact ⟨cat_a (by rw [H.out, HR.out]), hX.trans X6⟩
    · have b2 : (r == 5) = false := beq_eq_false_iff_ne.2 k2
      have H := Lib.hid (H4.out (by rw [HK.out]; exact b2))
      have n1 : (k != f) = true := by simp; omega
      have n2 : (k != s) = true := by simp; omega
      have c1 := e01 w6 X6
      have c2 := e02 w6 X6
      clear k1 k2
      go_wp2
      go_ret
      exact ⟨st_eq H.out, hX.trans X6⟩
  have b1 : (k == -1) = false := beq_eq_false_iff_ne.2 k1
  have c1 := e01 w6 X6
  have c2 := e02 w6 X6
  by_cases k2 : k = f ∨ k = s
  rotate_left
  · have H := Lib.hid (H4.out (HV.out.trans (K3.out k1 k2)))
    have n1 : (k != f) = true := by simp; exact fun h => k2 (.inl h)
    have n2 : (k != s) = true := by simp; exact fun h => k2 (.inr h)
    clear k1 k2
    go_wp2
    go_ret
    exact ⟨st_eq H.out, hX.trans X6⟩
  have HK := Lib.hid (HV.out.trans (K2.out k1 k2))
  have kb : 0 ≤ k ∧ k < 16 := by omega
  have hn : (k != f) = false ∨ ((k != f) = true ∧ (k != s) = false) := by
    by_cases g : k = f
    · exact .inl (by simp [g])
    · exact .inr ⟨by simp [g], by rcases k2 with h | h; exact absurd h g; simp [h]⟩
  have I3 := Lib.hid (I2.out k1)
  have PK := Lib.hid (fun w => numberN_any k w kb.1 kb.2)
  have lk := nm_len k
  cases h14 : inB r 1 4
  · have H := Lib.hid (H4.out (HK.out.trans h14))
    clear k1 k2
    rcases hn with n1 | ⟨n1, n2⟩
    all_goals
      go_wp2_with fail
      refine (in_any _ _ _ _).mono ?_
      rintro e w7 ⟨rfl, rfl⟩
      go_wp2
      go_ret
      exact ⟨st_eq H.out, hX.trans X6⟩
  · have H := Lib.hid ((H5.out (HK.out.trans h14)).trans I3.out)
    obtain ⟨r1, r4⟩ := of_inB h14
    have LR := rw_len r
    obtain ⟨q, hq⟩ : ∃ q : Nat, (r - 1).toNat = q := ⟨_, rfl⟩
    have PW := Lib.hid (fun w => (words_spec w).mono fun e w' (h : _ ∧ _ ∧ _) => (show e = .returned (.slice (some ⟨w.heap.size, 0, none⟩) 5 5) ∧ w'.cell? ⟨w.heap.size, q, none⟩ = some (St (rwW r)) ∧ Ext w w' from ⟨h.1, hq ▸ h.2.1 r r1 (by omega), h.2.2⟩))
    have s5 : ¬ (9223372036854775807 < U.length + (nmW k).length) := by omega
    have s6 : ¬ (9223372036854775807 < U.length + (nmW k).length + 1) := by omega
    have s7 : ¬ (9223372036854775807 < U.length + (nmW k).length + 1 + (rwW r).length) := by omega
    generalize nmW k = D at *
    generalize rwW r = R at *
    obtain rfl : r = (q : Int) + 1 := by omega
    have i0 : (0 : Int) ≤ (q : Int) := by omega
    have i1 : (q : Int) < 5 := by omega
    have T1 : IntKind.i64.wrap (q : Int) = (q : Int) := IntWalk.i64_in _ (by omega)
    have T2 : IntKind.i64.wrap ((q : Int) + 1 - 1) = (q : Int) := by rw [Int.add_sub_cancel]; exact T1
    clear k1 k2 c3 c4
    rcases hn with n1 | ⟨n1, n2⟩
    all_goals
      have g3 := e03 w6 X6
      have g4 := e04 w6 X6
      go_wp2_with fail
      refine (in_any _ _ _ _).mono ?_
      rintro e w7 ⟨rfl, rfl⟩
      rw [h14]
      go_upto_region 8 with fail
      rw [EU.out]
      clear c1 c2 g3 g4
      replace e03 : ∀ w', Ext w6 w' → w'.cell? ⟨w.heap.size, 3, none⟩ = some (.int .i64 k) := fun w' h => e03 w' (X6.trans h)
      replace e04 : ∀ w', Ext w6 w' → w'.cell? ⟨w.heap.size, 4, none⟩ = some (.int .i64 ((q : Int) + 1)) := fun w' h => e04 w' (X6.trans h)
      refine wp_region_held_drew (S := fun w' => Ext w6 w') (by kernel_rfl) (by (try dsimp only); exact Ext.drew (Ext.refl w6)) (fun hHeld => ?_)
      have hE : Ext w6 w6.drew := Ext.drew (Ext.refl w6)
      obtain ⟨V0, hV0⟩ : ∃ V0, V0 = w6.drew := ⟨_, rfl⟩
      rw [← hV0] at hE hHeld ⊢
      clear hV0
      refine Ord.K 0 67 ?_; refine Ord.K 1 68 ?_; refine Ord.K 7 74 ?_; refine Ord.K 2 69 ?_; refine Ord.K 8 75 ?_; refine Ord.K 9 76 ?_
      refine wpAnyH_ready (rs := [3]) (by kernel_rfl) (by simp) ?_
      refine (AllReadyH.cons rfl (fun K hK => ?_) AllReadyH.nil)
      go_simp
      go_at_call 24
      refine (PK.out _).mono ?_
      rintro e V1 ⟨rfl, hy⟩
      go_wp2_with fail
      have zy := Ext.size hy
      have hE' := hE.trans hy
      refine hK.out _ _ hE' (fun hHeld => ?_)
      clear hK K
      (try simp only [Act.put, Ord.a, Ord.b, Ord.c])
      replace hE := hE'
      clear hE' hy
      refine Ord.K 4 71 ?_; refine Ord.K 5 72 ?_
      refine wpAnyH_ready (rs := [6]) (by kernel_rfl) (by simp) ?_
      refine (AllReadyH.cons rfl (fun K hK => ?_) AllReadyH.nil)
      go_simp
      go_at_call 25
      refine (PW.out _).mono ?_
      rintro e V2 ⟨rfl, cw, hy⟩
      go_wp2_with fail
      have zy := Ext.size hy
      have hE' := hE.trans hy
      refine hK.out _ _ hE' (fun hHeld => ?_)
      clear hK K
      (try simp only [Act.put, Ord.a, Ord.b, Ord.c])
      replace hE := hE'
      clear hE' hy
      refine Ord.K 10 77 ?_
      refine wpAnyH_ready (rs := [11]) (by kernel_rfl) (by simp) ?_
      refine (AllReadyH.cons rfl (fun K hK => ?_) AllReadyH.nil)
      go_simp
      refine hK.out _ _ hE (fun hHeld => ?_)
      clear hK K
      (try simp only [Act.put, Ord.a, Ord.b, Ord.c])
      refine Ord.K 12 79 ?_; refine Ord.K 13 2 ?_
      refine wpAnyH_done (by kernel_rfl) ?_ _
      (go_wp2; go_ret; exact ⟨cat_b H.out, hX.trans (X6.trans hE)⟩)

end Go.Proofs.YtknelhceaoblhaaDoor.Itx
