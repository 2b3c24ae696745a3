import Derived.Test.YtpdnefodbichkaaDrawW
import Derived.Test.YtpdnefodbichkaaBig
import Derived.Test.YtpdnefodbichkaaWin2
import Derived.Test.YtpdnefodbichkaaClo
import Derived.ChangeOld
import Derived.Below
import Derived.Lib.SmallJoins
namespace Go.Proofs.Ytpdnefodbichkaa.fnWithin
open Go.ChangeShapes Go.WideShapes Go.ChangeAt Go.RowKit
open Go.Proofs.Ytpdnefodbichkaa.Kit Go.Proofs.Ytpdnefodbichkaa.Num Go.Proofs.Ytpdnefodbichkaa.Draw Go.Proofs.Ytpdnefodbichkaa.Pts Go.Proofs.Ytpdnefodbichkaa.Seg Go.Proofs.Ytpdnefodbichkaa.Gcd Go.Proofs.Ytpdnefodbichkaa.Win Go.Proofs.Ytpdnefodbichkaa.Wid
set_option linter.unusedVariables false
set_option linter.unusedSimpArgs false
theorem sgB_comm (a b c d : Int) : sgB c d a b = sgB a b c d := by
  unfold sgB
  rw [show (c == a) = (a == c) from Bool.eq_iff_iff.2 (by rw [beq_iff_eq, beq_iff_eq]; exact eq_comm), show (d == b) = (b == d) from Bool.eq_iff_iff.2 (by rw [beq_iff_eq, beq_iff_eq]; exact eq_comm)]
  cases ptB a b <;> cases ptB c d <;> rfl
theorem sqL_comm (a b c d : Int) : sqL c d a b = sqL a b c d := by unfold sqL; grind
theorem alg_comm (a b c d p q : Int) : alg c d a b p q = sqL a b c d - alg a b c d p q := by unfold alg sqL; grind
theorem crs_comm (a b c d p q : Int) : crs c d a b p q = -crs a b c d p q := by unfold crs; grind
theorem wi_comm (a b c d p q r : Int) (hm : 1 ≤ sqL a b c d) : wiB c d a b p q r = wiB a b c d p q r := by
  rw [wiB_spec c d a b p q r (by rw [sqL_comm]; exact hm), wiB_spec a b c d p q r hm, sqL_comm, alg_comm, crs_comm, Int.neg_mul_neg, Bool.or_comm (decide (sqD c d p q ≤ r * r))]
  rw [show decide (sqL a b c d - alg a b c d p q ≤ 0) = decide (sqL a b c d ≤ alg a b c d p q) from decide_eq_decide.2 (by omega),
    show decide (sqL a b c d ≤ sqL a b c d - alg a b c d p q) = decide (alg a b c d p q ≤ 0) from decide_eq_decide.2 (by omega), Bool.or_comm (decide (sqL a b c d ≤ alg a b c d p q))]
theorem wi_mono (a b c d p q r : Int) (hm : 1 ≤ sqL a b c d) (hr : 0 ≤ r) (h : wiB a b c d p q r = true) : wiB a b c d p q (r + 1) = true := by
  have e : (r + 1) * (r + 1) = r * r + 2 * r + 1 := by grind
  have m : r * r * sqL a b c d ≤ (r + 1) * (r + 1) * sqL a b c d := Int.mul_le_mul_of_nonneg_right (by omega) (by omega)
  rw [wiB_spec a b c d p q r hm] at h
  rw [wiB_spec a b c d p q (r + 1) hm]
  simp only [Bool.or_eq_true, Bool.and_eq_true, decide_eq_true_eq] at h ⊢
  rcases h with (h | h) | ⟨h1, h⟩
  · exact .inl (.inl (by omega))
  · exact .inl (.inr (by omega))
  · exact .inr ⟨h1, by omega⟩
theorem wi_endA (a b c d p q r : Int) (hm : 1 ≤ sqL a b c d) (h : sqD a b p q ≤ r * r) : wiB a b c d p q r = true := by
  rw [wiB_spec a b c d p q r hm, decide_eq_true h]; rfl
theorem wi_endB (a b c d p q r : Int) (hm : 1 ≤ sqL a b c d) (h : sqD c d p q ≤ r * r) : wiB a b c d p q r = true := by
  rw [wiB_spec a b c d p q r hm, decide_eq_true h]; simp
set_option maxRecDepth 100000 in
set_option maxHeartbeats 4000000 in
theorem walk (c0 : Option Addr) (len cap : Nat) (zs : List Int) (w : World) (hr : IsRow .u8 w c0 len cap zs) :
    Calls Try.prog 3 #[.slice c0 len cap] w fun e w' => e = .returned (.bool true) ∧ Ext w w' := by
  have HB := Lib.hid hr.bytes
  clear hr
  by_cases hl : 4096 < len
  · have g := show bigB len = true from decide_eq_true hl
    go_enter Try.func3, Try.ntmps3
    go_wp2_with (go_at_call 7; refine (big_any _ _ _ _).mono ?_; rintro e w' ⟨rfl, rfl⟩)
    go_ret
    exact ⟨rfl, Ext.refl _⟩
  · have g := show bigB len = false from decide_eq_false hl
    go_enter Try.func3, Try.ntmps3
    go_wp2_with fail
    refine (big_any _ _ _ _).mono ?_
    rintro e w' ⟨rfl, rfl⟩
    go_wp2_with fail
    refine (drawWithinDistance_any c0 len cap _ HB.out (by omega)).mono ?_
    rintro e w1 ⟨a, b, c, d, p, q, r, rfl, hx⟩
    obtain ⟨⟨i0, i1, i2, i3⟩, _⟩ := ((Box.new4 (w := w1) (n := w1.heap.size) (x := .int .i64 a) (y := .int .i64 b) (z := .int .i64 c) (u := .int .i64 d) (t := 27) rfl).alloc (.cells #[.int .i64 p, .int .i64 q] 25)).four
    obtain ⟨⟨j0, j1⟩, _⟩ := (Box.new2 (w := w1.alloc (.cells #[.int .i64 a, .int .i64 b, .int .i64 c, .int .i64 d] 27)) (n := w1.heap.size + 1) (x := .int .i64 p) (y := .int .i64 q) (t := 25) (by simp)).two
    replace hx := (hx.alloc (.cells #[.int .i64 a, .int .i64 b, .int .i64 c, .int .i64 d] 27)).alloc (.cells #[.int .i64 p, .int .i64 q] 25)
    clear HB g hl
    by_cases hv : sgB a b c d = true ∧ ptB p q = true
    rotate_left
    · have e1 : wdC a b c d p q r = 1 := if_neg hv
      have e2 : wdB a b c d p q r = false := if_neg (fun h => hv h.1)
      clear hv
      go_wp2_with (first | (go_at_call 9; refine (withinDistance_impl _ _ _ _ _ _ _ _).mono ?_; rintro e w2 ⟨rfl, hy⟩; replace i0 := hy.cellOf i0; replace i1 := hy.cellOf i1; replace i2 := hy.cellOf i2; replace i3 := hy.cellOf i3; replace j0 := hy.cellOf j0; replace j1 := hy.cellOf j1; replace hx := hx.trans hy; clear hy) | (go_at_call 10; refine (withinDistance_spec _ _ _ _ _ _ _ _).mono ?_; rintro e w2 ⟨rfl, hy⟩; replace i0 := hy.cellOf i0; replace i1 := hy.cellOf i1; replace i2 := hy.cellOf i2; replace i3 := hy.cellOf i3; replace j0 := hy.cellOf j0; replace j1 := hy.cellOf j1; replace hx := hx.trans hy; clear hy) | (go_at_call 11; refine (squareDistance_impl _ _ _ _ _).mono ?_; rintro e w2 ⟨rfl, hy⟩; replace i0 := hy.cellOf i0; replace i1 := hy.cellOf i1; replace i2 := hy.cellOf i2; replace i3 := hy.cellOf i3; replace j0 := hy.cellOf j0; replace j1 := hy.cellOf j1; replace hx := hx.trans hy; clear hy))
      go_ret
      exact ⟨rfl, hx⟩
    by_cases hr : 0 ≤ r ∧ r ≤ 10000
    rotate_left
    · have e1 : wdC a b c d p q r = 2 := (if_pos hv).trans (if_neg hr)
      have e2 : wdB a b c d p q r = false := if_neg (fun h => hr h.2)
      clear hv hr
      go_wp2_with (first | (go_at_call 9; refine (withinDistance_impl _ _ _ _ _ _ _ _).mono ?_; rintro e w2 ⟨rfl, hy⟩; replace i0 := hy.cellOf i0; replace i1 := hy.cellOf i1; replace i2 := hy.cellOf i2; replace i3 := hy.cellOf i3; replace j0 := hy.cellOf j0; replace j1 := hy.cellOf j1; replace hx := hx.trans hy; clear hy) | (go_at_call 10; refine (withinDistance_spec _ _ _ _ _ _ _ _).mono ?_; rintro e w2 ⟨rfl, hy⟩; replace i0 := hy.cellOf i0; replace i1 := hy.cellOf i1; replace i2 := hy.cellOf i2; replace i3 := hy.cellOf i3; replace j0 := hy.cellOf j0; replace j1 := hy.cellOf j1; replace hx := hx.trans hy; clear hy) | (go_at_call 11; refine (squareDistance_impl _ _ _ _ _).mono ?_; rintro e w2 ⟨rfl, hy⟩; replace i0 := hy.cellOf i0; replace i1 := hy.cellOf i1; replace i2 := hy.cellOf i2; replace i3 := hy.cellOf i3; replace j0 := hy.cellOf j0; replace j1 := hy.cellOf j1; replace hx := hx.trans hy; clear hy))
      go_ret
      exact ⟨rfl, hx⟩
    have hv2 : sgB c d a b = true ∧ ptB p q = true := ⟨(sgB_comm a b c d).trans hv.1, hv.2⟩
    obtain ⟨⟨ha, hb, hc, hd⟩, hne⟩ := sgB_yes hv.1
    obtain ⟨hp, hq⟩ := ptB_yes hv.2
    have pA : ptB a b = true := by unfold ptB coB; rw [inB_yes ha.1 ha.2, inB_yes hb.1 hb.2]; rfl
    have pC : ptB c d = true := by unfold ptB coB; rw [inB_yes hc.1 hc.2, inB_yes hd.1 hd.2]; rfl
    obtain ⟨M1, _⟩ := sqL_bd ha hb hc hd hne
    have e1 : wdC a b c d p q r = 0 := (if_pos hv).trans (if_pos hr)
    have e2 : wdC c d a b p q r = 0 := (if_pos hv2).trans (if_pos hr)
    have d1 : sdC a b p q = 0 := if_pos ⟨pA, hv.2⟩
    have d2 : sdC c d p q = 0 := if_pos ⟨pC, hv.2⟩
    have d3 : sdQ a b p q = sqD a b p q := if_pos ⟨pA, hv.2⟩
    have d4 : sdQ c d p q = sqD c d p q := if_pos ⟨pC, hv.2⟩
    have q1 : wdB a b c d p q r = wiB a b c d p q r := if_pos ⟨hv, hr⟩
    have q2 : wdB c d a b p q r = wiB a b c d p q r := (if_pos ⟨hv2, hr⟩).trans (wi_comm a b c d p q r M1)
    obtain ⟨R1, R2⟩ := nn_bd hr.1 hr.2 hr.1 hr.2
    simp only [Int.reduceMul] at R2
    have mono := wi_mono a b c d p q r M1 hr.1
    have eA := wi_endA a b c d p q r M1
    have eB := wi_endB a b c d p q r M1
    obtain ⟨r0, r1⟩ := hr
    have q3 : r < 10000 → wdC a b c d p q (r + 1) = 0 ∧ wdB a b c d p q (r + 1) = wiB a b c d p q (r + 1) := fun h => ⟨(if_pos hv).trans (if_pos ⟨by omega, by omega⟩), if_pos ⟨hv, by omega, by omega⟩⟩
    clear hv hv2 hne ha hb hc hd hp hq pA pC M1
    cases hx0 : wiB a b c d p q r
    · have s1 : ¬ sqD a b p q ≤ r * r := fun h => by rw [eA h] at hx0; cases hx0
      have s2 : ¬ sqD c d p q ≤ r * r := fun h => by rw [eB h] at hx0; cases hx0
      rw [hx0] at q1 q2
      clear eA eB mono hx0
      by_cases hk : r = 10000
      · have hk1 : (r == 10000) = true := beq_iff_eq.2 hk
        clear hk q3
        go_wp2_with (first | (go_at_call 9; refine (withinDistance_impl _ _ _ _ _ _ _ _).mono ?_; rintro e w2 ⟨rfl, hy⟩; replace i0 := hy.cellOf i0; replace i1 := hy.cellOf i1; replace i2 := hy.cellOf i2; replace i3 := hy.cellOf i3; replace j0 := hy.cellOf j0; replace j1 := hy.cellOf j1; replace hx := hx.trans hy; clear hy) | (go_at_call 10; refine (withinDistance_spec _ _ _ _ _ _ _ _).mono ?_; rintro e w2 ⟨rfl, hy⟩; replace i0 := hy.cellOf i0; replace i1 := hy.cellOf i1; replace i2 := hy.cellOf i2; replace i3 := hy.cellOf i3; replace j0 := hy.cellOf j0; replace j1 := hy.cellOf j1; replace hx := hx.trans hy; clear hy) | (go_at_call 11; refine (squareDistance_impl _ _ _ _ _).mono ?_; rintro e w2 ⟨rfl, hy⟩; replace i0 := hy.cellOf i0; replace i1 := hy.cellOf i1; replace i2 := hy.cellOf i2; replace i3 := hy.cellOf i3; replace j0 := hy.cellOf j0; replace j1 := hy.cellOf j1; replace hx := hx.trans hy; clear hy))
        go_ret
        exact ⟨rfl, hx⟩
      · have hk1 : (r == 10000) = false := beq_eq_false_iff_ne.2 hk
        obtain ⟨z1, z2⟩ := q3 (by omega)
        clear hk q3
        go_wp2_with (first | (go_at_call 9; refine (withinDistance_impl _ _ _ _ _ _ _ _).mono ?_; rintro e w2 ⟨rfl, hy⟩; replace i0 := hy.cellOf i0; replace i1 := hy.cellOf i1; replace i2 := hy.cellOf i2; replace i3 := hy.cellOf i3; replace j0 := hy.cellOf j0; replace j1 := hy.cellOf j1; replace hx := hx.trans hy; clear hy) | (go_at_call 10; refine (withinDistance_spec _ _ _ _ _ _ _ _).mono ?_; rintro e w2 ⟨rfl, hy⟩; replace i0 := hy.cellOf i0; replace i1 := hy.cellOf i1; replace i2 := hy.cellOf i2; replace i3 := hy.cellOf i3; replace j0 := hy.cellOf j0; replace j1 := hy.cellOf j1; replace hx := hx.trans hy; clear hy) | (go_at_call 11; refine (squareDistance_impl _ _ _ _ _).mono ?_; rintro e w2 ⟨rfl, hy⟩; replace i0 := hy.cellOf i0; replace i1 := hy.cellOf i1; replace i2 := hy.cellOf i2; replace i3 := hy.cellOf i3; replace j0 := hy.cellOf j0; replace j1 := hy.cellOf j1; replace hx := hx.trans hy; clear hy))
        go_ret
        exact ⟨rfl, hx⟩
    · rw [hx0] at q1 q2
      replace mono := mono hx0
      clear eA eB hx0
      by_cases s1 : sqD a b p q ≤ r * r
      · by_cases hk : r = 10000
        · have hk1 : (r == 10000) = true := beq_iff_eq.2 hk
          clear hk q3
          go_wp2_with (first | (go_at_call 9; refine (withinDistance_impl _ _ _ _ _ _ _ _).mono ?_; rintro e w2 ⟨rfl, hy⟩; replace i0 := hy.cellOf i0; replace i1 := hy.cellOf i1; replace i2 := hy.cellOf i2; replace i3 := hy.cellOf i3; replace j0 := hy.cellOf j0; replace j1 := hy.cellOf j1; replace hx := hx.trans hy; clear hy) | (go_at_call 10; refine (withinDistance_spec _ _ _ _ _ _ _ _).mono ?_; rintro e w2 ⟨rfl, hy⟩; replace i0 := hy.cellOf i0; replace i1 := hy.cellOf i1; replace i2 := hy.cellOf i2; replace i3 := hy.cellOf i3; replace j0 := hy.cellOf j0; replace j1 := hy.cellOf j1; replace hx := hx.trans hy; clear hy) | (go_at_call 11; refine (squareDistance_impl _ _ _ _ _).mono ?_; rintro e w2 ⟨rfl, hy⟩; replace i0 := hy.cellOf i0; replace i1 := hy.cellOf i1; replace i2 := hy.cellOf i2; replace i3 := hy.cellOf i3; replace j0 := hy.cellOf j0; replace j1 := hy.cellOf j1; replace hx := hx.trans hy; clear hy))
          go_ret
          exact ⟨rfl, hx⟩
        · have hk1 : (r == 10000) = false := beq_eq_false_iff_ne.2 hk
          obtain ⟨z1, z2⟩ := q3 (by omega)
          rw [mono] at z2
          clear hk q3
          go_wp2_with (first | (go_at_call 9; refine (withinDistance_impl _ _ _ _ _ _ _ _).mono ?_; rintro e w2 ⟨rfl, hy⟩; replace i0 := hy.cellOf i0; replace i1 := hy.cellOf i1; replace i2 := hy.cellOf i2; replace i3 := hy.cellOf i3; replace j0 := hy.cellOf j0; replace j1 := hy.cellOf j1; replace hx := hx.trans hy; clear hy) | (go_at_call 10; refine (withinDistance_spec _ _ _ _ _ _ _ _).mono ?_; rintro e w2 ⟨rfl, hy⟩; replace i0 := hy.cellOf i0; replace i1 := hy.cellOf i1; replace i2 := hy.cellOf i2; replace i3 := hy.cellOf i3; replace j0 := hy.cellOf j0; replace j1 := hy.cellOf j1; replace hx := hx.trans hy; clear hy) | (go_at_call 11; refine (squareDistance_impl _ _ _ _ _).mono ?_; rintro e w2 ⟨rfl, hy⟩; replace i0 := hy.cellOf i0; replace i1 := hy.cellOf i1; replace i2 := hy.cellOf i2; replace i3 := hy.cellOf i3; replace j0 := hy.cellOf j0; replace j1 := hy.cellOf j1; replace hx := hx.trans hy; clear hy))
          go_ret
          exact ⟨rfl, hx⟩
      · by_cases s2 : sqD c d p q ≤ r * r
        · by_cases hk : r = 10000
          · have hk1 : (r == 10000) = true := beq_iff_eq.2 hk
            clear hk q3
            go_wp2_with (first | (go_at_call 9; refine (withinDistance_impl _ _ _ _ _ _ _ _).mono ?_; rintro e w2 ⟨rfl, hy⟩; replace i0 := hy.cellOf i0; replace i1 := hy.cellOf i1; replace i2 := hy.cellOf i2; replace i3 := hy.cellOf i3; replace j0 := hy.cellOf j0; replace j1 := hy.cellOf j1; replace hx := hx.trans hy; clear hy) | (go_at_call 10; refine (withinDistance_spec _ _ _ _ _ _ _ _).mono ?_; rintro e w2 ⟨rfl, hy⟩; replace i0 := hy.cellOf i0; replace i1 := hy.cellOf i1; replace i2 := hy.cellOf i2; replace i3 := hy.cellOf i3; replace j0 := hy.cellOf j0; replace j1 := hy.cellOf j1; replace hx := hx.trans hy; clear hy) | (go_at_call 11; refine (squareDistance_impl _ _ _ _ _).mono ?_; rintro e w2 ⟨rfl, hy⟩; replace i0 := hy.cellOf i0; replace i1 := hy.cellOf i1; replace i2 := hy.cellOf i2; replace i3 := hy.cellOf i3; replace j0 := hy.cellOf j0; replace j1 := hy.cellOf j1; replace hx := hx.trans hy; clear hy))
            go_ret
            exact ⟨rfl, hx⟩
          · have hk1 : (r == 10000) = false := beq_eq_false_iff_ne.2 hk
            obtain ⟨z1, z2⟩ := q3 (by omega)
            rw [mono] at z2
            clear hk q3
            go_wp2_with (first | (go_at_call 9; refine (withinDistance_impl _ _ _ _ _ _ _ _).mono ?_; rintro e w2 ⟨rfl, hy⟩; replace i0 := hy.cellOf i0; replace i1 := hy.cellOf i1; replace i2 := hy.cellOf i2; replace i3 := hy.cellOf i3; replace j0 := hy.cellOf j0; replace j1 := hy.cellOf j1; replace hx := hx.trans hy; clear hy) | (go_at_call 10; refine (withinDistance_spec _ _ _ _ _ _ _ _).mono ?_; rintro e w2 ⟨rfl, hy⟩; replace i0 := hy.cellOf i0; replace i1 := hy.cellOf i1; replace i2 := hy.cellOf i2; replace i3 := hy.cellOf i3; replace j0 := hy.cellOf j0; replace j1 := hy.cellOf j1; replace hx := hx.trans hy; clear hy) | (go_at_call 11; refine (squareDistance_impl _ _ _ _ _).mono ?_; rintro e w2 ⟨rfl, hy⟩; replace i0 := hy.cellOf i0; replace i1 := hy.cellOf i1; replace i2 := hy.cellOf i2; replace i3 := hy.cellOf i3; replace j0 := hy.cellOf j0; replace j1 := hy.cellOf j1; replace hx := hx.trans hy; clear hy))
            go_ret
            exact ⟨rfl, hx⟩
        · by_cases hk : r = 10000
          · have hk1 : (r == 10000) = true := beq_iff_eq.2 hk
            clear hk q3
            go_wp2_with (first | (go_at_call 9; refine (withinDistance_impl _ _ _ _ _ _ _ _).mono ?_; rintro e w2 ⟨rfl, hy⟩; replace i0 := hy.cellOf i0; replace i1 := hy.cellOf i1; replace i2 := hy.cellOf i2; replace i3 := hy.cellOf i3; replace j0 := hy.cellOf j0; replace j1 := hy.cellOf j1; replace hx := hx.trans hy; clear hy) | (go_at_call 10; refine (withinDistance_spec _ _ _ _ _ _ _ _).mono ?_; rintro e w2 ⟨rfl, hy⟩; replace i0 := hy.cellOf i0; replace i1 := hy.cellOf i1; replace i2 := hy.cellOf i2; replace i3 := hy.cellOf i3; replace j0 := hy.cellOf j0; replace j1 := hy.cellOf j1; replace hx := hx.trans hy; clear hy) | (go_at_call 11; refine (squareDistance_impl _ _ _ _ _).mono ?_; rintro e w2 ⟨rfl, hy⟩; replace i0 := hy.cellOf i0; replace i1 := hy.cellOf i1; replace i2 := hy.cellOf i2; replace i3 := hy.cellOf i3; replace j0 := hy.cellOf j0; replace j1 := hy.cellOf j1; replace hx := hx.trans hy; clear hy))
            go_ret
            exact ⟨rfl, hx⟩
          · have hk1 : (r == 10000) = false := beq_eq_false_iff_ne.2 hk
            obtain ⟨z1, z2⟩ := q3 (by omega)
            rw [mono] at z2
            clear hk q3
            go_wp2_with (first | (go_at_call 9; refine (withinDistance_impl _ _ _ _ _ _ _ _).mono ?_; rintro e w2 ⟨rfl, hy⟩; replace i0 := hy.cellOf i0; replace i1 := hy.cellOf i1; replace i2 := hy.cellOf i2; replace i3 := hy.cellOf i3; replace j0 := hy.cellOf j0; replace j1 := hy.cellOf j1; replace hx := hx.trans hy; clear hy) | (go_at_call 10; refine (withinDistance_spec _ _ _ _ _ _ _ _).mono ?_; rintro e w2 ⟨rfl, hy⟩; replace i0 := hy.cellOf i0; replace i1 := hy.cellOf i1; replace i2 := hy.cellOf i2; replace i3 := hy.cellOf i3; replace j0 := hy.cellOf j0; replace j1 := hy.cellOf j1; replace hx := hx.trans hy; clear hy) | (go_at_call 11; refine (squareDistance_impl _ _ _ _ _).mono ?_; rintro e w2 ⟨rfl, hy⟩; replace i0 := hy.cellOf i0; replace i1 := hy.cellOf i1; replace i2 := hy.cellOf i2; replace i3 := hy.cellOf i3; replace j0 := hy.cellOf j0; replace j1 := hy.cellOf j1; replace hx := hx.trans hy; clear hy))
            go_ret
            exact ⟨rfl, hx⟩
theorem own : ownKnob Try.prog.godebug = none := by kernel_rfl
theorem laidOut : laidOutB Try.prog = true := Clo.laid
set_option maxRecDepth 100000 in
theorem lifted (os : Os) (started : os.Started) (H : Type) (enc : TypeId × Value → H) :
    ReturnsInHanded {} Try.checked os 3 .any (Rows.fnWithinSpec.pre6 enc Try.prog Try.f3 Rows.fnWithinRow.domain false) (Rows.fnWithinSpec.post enc Try.prog Try.f3 false true false false) := by
  refine returnsInHanded_of_change (C := Try.checked) own started (by kernel_rfl) Try.func3
    (ChangeSpec.witness6 (enc := enc) (C := Try.checked) false ⟨#[], #[.slice none 0 0], []⟩ 8 (by kernel_rfl) (by kernel_rfl) (by kernel_rfl) (by kernel_rfl)) ?_
  intro W base args ds gs before hval0 hW hcnd _
  have hval : ∀ (j : Nat) t v, Try.f3.params[j]? = some t → args[j]? = some v → Value.okWide Try.prog W .any base t v := hval0
  have hW' := hW
  obtain ⟨p, q, hA0, hV, rfl, hfz, hnd⟩ := hW
  have hA : DataW.TrodAll enc Try.prog W 0 (fun _ => true) true Try.f3.params.toList args.toList ds p := hA0
  rw [Try.params3] at hA hval
  obtain ⟨v0, vs0, d0, ds0, p0, q0, hargs, rfl, rfl, h0, r0⟩ := trodAll_cons hA
  obtain ⟨rfl, rfl, rfl⟩ := trodAll_nil r0
  obtain rfl : args = #[v0] := by cases args; simp_all
  obtain ⟨rfl, rfl⟩ := trodVars_none hV
  have k0 := h0
  have lt0 : ∀ x ∈ p0, x.block < W.heap.size := by obtain ⟨m, hm⟩ := k0; exact DataW.trod_lt m _ _ _ hm
  obtain ⟨a0, len0, cap0, rfl⟩ := okWide_slice Try.underlying22 (hval 0 22 v0 rfl rfl)
  obtain ⟨z0, w0⟩ : ∃ zs, IsRow .u8 W a0 len0 cap0 zs := by
    obtain ⟨fuel, hf⟩ := h0
    rcases open_ints Try.underlying22 Try.underlying5 (by kernel_rfl) hf with ⟨hcs, _⟩ | ⟨x, l, c, zs, hcs, _, hl, hm, hz, _, hcell, hwz⟩
    · simp [Value.cells] at hcs
      obtain ⟨rfl, rfl, rfl⟩ := hcs
      exact ⟨[], .inl ⟨rfl, rfl, rfl, rfl⟩⟩
    · simp [Value.cells] at hcs
      obtain ⟨rfl, rfl, rfl⟩ := hcs
      exact ⟨zs, .inr ⟨_, rfl, hl, hm, by simpa using hz, hcell, hwz⟩⟩
  clear hA0 hval0
  refine (walk a0 len0 cap0 z0 W w0).mono fun e W' ⟨he, hx⟩ => ?_
  have bel := hx.below
  subst he
  exact ⟨_, rfl, _, _, _, [], _, [], hW', trodAll_mk1 (shut_bool Try.underlying4 _), (trodAll_cons_mk (Below.trod laidOut (by kernel_rfl) (of_decide_eq_true (by kernel_rfl)) k0 bel lt0) trodAll_mk0), rfl, bel.frame _, fun h => by cases h⟩
set_option maxRecDepth 100000 in
set_option maxHeartbeats 400000000 in
theorem closed : joinedFacts Try.pinned.checked.prog 3 Try.f3 Rows.fnWithinSpec Rows.fnWithinRow = true := by
  unfold joinedFacts
  simp only [Bool.and_eq_true]
  repeat' (with_reducible refine And.intro ?_ ?_)
  all_goals (first | (with_reducible exact Clo.laid) | (with_reducible exact Clo.rowed) | (with_reducible exact Clo.heard) | (with_reducible exact Clo.enter) | (rw [Clo.lifts]; rfl) | (rw [Clo.made]; rfl) | (as_aux_lemma => kernel_rfl))
theorem proved : Rows.FnWithinSaid :=
  OpenClaim.holds_of_wide 3 Try.f3 rfl rfl rfl rfl rfl rfl rfl ⟨rfl, rfl, rfl, rfl, rfl⟩ rfl rfl rfl rfl rfl (by as_aux_lemma => kernel_rfl) Try.func3 closed
    (of_decide_eq_true (by as_aux_lemma => kernel_rfl)) (by unfold Func.isWrapper; first | (rw [if_pos (by decide +kernel)]; kernel_rfl) | (rw [if_neg (by decide +kernel)]; exact ⟨rfl, rfl⟩))
    (fun os started H enc _ => lifted os started H enc)
end Go.Proofs.Ytpdnefodbichkaa.fnWithin
