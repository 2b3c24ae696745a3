/- FnNear: for every code, the answer for the two hulls and the distance that are drawn is that of the reference model, hulls are near to one another in both orders, and at the next greater distance. No condition. -/
import Derived.Test.YtdcnfeimfpafiaaDrawHl
import Derived.Test.YtdcnfeimfpafiaaHulM
import Derived.Test.YtdcnfeimfpafiaaHulR
import Derived.Test.YtdcnfeimfpafiaaBig
import Derived.ChangeOld
import Derived.Below
import Derived.Lib.SmallJoins
import Derived.Deep.DeepCutAuto
namespace Go.Proofs.Ytdcnfeimfpafiaa.fnNear
open Go.ChangeShapes Go.WideShapes Go.ChangeAt Go.RowKit
open Go.Proofs.Ytdcnfeimfpafiaa.Kit Go.Proofs.Ytdcnfeimfpafiaa.Num Go.Proofs.Ytdcnfeimfpafiaa.Draw Go.Proofs.Ytdcnfeimfpafiaa.Pts Go.Proofs.Ytdcnfeimfpafiaa.Hul Go.Proofs.Ytdcnfeimfpafiaa.Seg
open Go.Proofs.Ytdcnfeimfpafiaa.Win (wiB)
open Go.Proofs.Ytdcnfeimfpafiaa.Gcd (sqL sqL_bd)
set_option linter.unusedVariables false
set_option linter.unusedSimpArgs false

theorem hv_sym (a b c d p q u v : Int) : hvB p q u v a b c d false = hvB a b c d p q u v false := by
  unfold hvB
  rw [show crB p q u v a b c d = crB a b c d p q u v by unfold crB; rw [Bool.and_comm], Bool.or_comm (endB p q u v a b c d)]
theorem nr_sym (a b c d p q u v r : Int) : nrB p q u v a b c d r = nrB a b c d p q u v r := by
  unfold nrB
  rw [hv_sym, Bool.or_assoc, Bool.or_assoc, Bool.or_comm (enB p q u v a b c d r)]
theorem wi_up {a b c d p q r : Int} (hm : 1 ≤ sqL a b c d) (hr : 0 ≤ r) (h : wiB a b c d p q r = true) : wiB a b c d p q (r + 1) = true := by
  have e : (r + 1) * (r + 1) = r * r + 2 * r + 1 := by grind
  have m : r * r * sqL a b c d ≤ (r + 1) * (r + 1) * sqL a b c d := Int.mul_le_mul_of_nonneg_right (by omega) (by omega)
  rw [Win.wiB_spec a b c d p q r hm] at h
  rw [Win.wiB_spec a b c d p q (r + 1) hm]
  simp only [Bool.or_eq_true, Bool.and_eq_true, decide_eq_true_eq] at h ⊢
  rcases h with (h | h) | ⟨h1, h⟩
  · exact .inl (.inl (by omega))
  · exact .inl (.inr (by omega))
  · exact .inr ⟨h1, by omega⟩
theorem en_up {a b c d p q u v r : Int} (hm : 1 ≤ sqL p q u v) (hr : 0 ≤ r) (h : enB a b c d p q u v r = true) : enB a b c d p q u v (r + 1) = true := by
  unfold enB at h ⊢
  rw [Bool.or_eq_true] at h ⊢
  exact h.imp (wi_up hm hr) (wi_up hm hr)
theorem nr_up {a b c d p q u v r : Int} (h1 : sgB a b c d = true) (h2 : sgB p q u v = true) (hr : 0 ≤ r) (h : nrB a b c d p q u v r = true) : nrB a b c d p q u v (r + 1) = true := by
  obtain ⟨⟨ha, hb, hc, hd⟩, hn⟩ := sgB_yes h1
  obtain ⟨⟨hp, hq, hu, hv⟩, gn⟩ := sgB_yes h2
  have m1 := (sqL_bd ha hb hc hd hn).1
  have m2 := (sqL_bd hp hq hu hv gn).1
  unfold nrB at h ⊢
  simp only [Bool.or_eq_true] at h ⊢
  rcases h with (h | h) | h
  · exact .inl (.inl h)
  · exact .inl (.inr (en_up m2 hr h))
  · exact .inr (en_up m1 hr h)
theorem hn_in {a b c d n p q u v m r : Int} (h : hnC a b c d n p q u v m r = 0) : h2B a b c d n p q u v m = true ∧ (0 ≤ r ∧ r ≤ 10000) ∧ axB a b c d n = true ∧ axB p q u v m = true := by
  unfold hnC at h
  cases h1 : h2B a b c d n p q u v m
  · rw [h1] at h; simp at h
  · rw [h1, if_pos rfl] at h
    by_cases h2 : inB r 0 10000 = true ∧ axB a b c d n = true ∧ axB p q u v m = true
    · exact ⟨rfl, of_inB h2.1, h2.2⟩
    · rw [if_neg h2] at h; simp at h
theorem hn_mk {a b c d n p q u v m r : Int} (h1 : h2B a b c d n p q u v m = true) (h2 : 0 ≤ r) (h3 : r ≤ 10000) (h4 : axB a b c d n = true) (h5 : axB p q u v m = true) :
    hnC a b c d n p q u v m r = 0 ∧ hnB a b c d n p q u v m r = hnN a b c d n p q u v m r := by
  have e : hnC a b c d n p q u v m r = 0 := by unfold hnC; rw [if_pos h1, if_pos ⟨inB_yes h2 h3, h4, h5⟩]
  exact ⟨e, by unfold hnB; rw [if_pos e]⟩

set_option maxRecDepth 100000 in
set_option maxHeartbeats 8000000 in
theorem walk (c0 : Option Addr) (len cap : Nat) (zs : List Int) (w : World) (hr : IsRow .u8 w c0 len cap zs) :
    Calls Try.prog 5 #[.slice c0 len cap] w fun e w' => e = .returned (.bool true) ∧ Ext w w' := by
  have HB := Lib.hid hr.bytes
  clear hr
  by_cases hl : 4096 < len
  · have g := show bigB len = true from decide_eq_true hl
    go_enter Try.func5, Try.ntmps5
    go_wp2_with (go_at_call 14; refine (big_any _ _ _ _).mono ?_; rintro e w' ⟨rfl, rfl⟩)
    go_ret
    exact ⟨rfl, Ext.refl _⟩
  have g := show bigB len = false from decide_eq_false hl
  go_enter Try.func5, Try.ntmps5
  go_wp2_with fail
  refine (big_any _ _ _ _).mono ?_
  rintro e w' ⟨rfl, rfl⟩
  go_wp2_with fail
  refine (drawHullsNear_any c0 len cap _ HB.out (by omega)).mono ?_
  rintro e w1 ⟨a, b, c, d, n, p, q, u, v, m, r, rfl, hx⟩
  obtain ⟨W2, hW2⟩ : ∃ W2, W2 = (w1.alloc (.cells #[.int .i64 a, .int .i64 b, .int .i64 c, .int .i64 d, .int .i64 n] 27)).alloc (.cells #[.int .i64 p, .int .i64 q, .int .i64 u, .int .i64 v, .int .i64 m] 27) := ⟨_, rfl⟩
  have X := Lib.hid (show Ext w W2 from hW2 ▸ (hx.alloc _).alloc _)
  have P := Lib.hid (show Box W2 w1.heap.size [.int .i64 a, .int .i64 b, .int .i64 c, .int .i64 d, .int .i64 n] from hW2 ▸ (Box.new5 rfl).alloc _)
  have Q := Lib.hid (show Box W2 (w1.heap.size + 1) [.int .i64 p, .int .i64 q, .int .i64 u, .int .i64 v, .int .i64 m] from hW2 ▸ Box.new5 (by simp))
  clear hx HB g hl
  go_upto_region 4 with fail
  rw [← hW2]
  clear hW2
  have KI := Lib.hid (fun w => hullsNear_impl a b c d n p q u v m r w)
  have KS := Lib.hid (fun w => hullsNear_spec a b c d n p q u v m r w)
  have KM := Lib.hid (fun w => hullsNear_impl p q u v m a b c d n r w)
  have KN := Lib.hid (fun w => hullsNear_impl a b c d n p q u v m (r + 1) w)
  by_cases hk : hnC a b c d n p q u v m r = 0
  rotate_left
  · have k1 : (hnC a b c d n p q u v m r != 0) = true := by simpa using hk
    rw [show hnB a b c d n p q u v m r = false from if_neg hk] at KI KS
    generalize hnC a b c d n p q u v m r = k at *
    clear hk KM KN
    obtain ⟨⟨p0, p1, p2, p3, p4⟩, _⟩ := P.out.five
    obtain ⟨⟨q0, q1, q2, q3, q4⟩, _⟩ := Q.out.five
    go_wp2_with fail
    refine (KI.out _).mono ?_
    rintro e w3 ⟨rfl, hy⟩
    replace P := Lib.hid (P.out.ext hy)
    replace Q := Lib.hid (Q.out.ext hy)
    replace X := Lib.hid (X.out.trans hy)
    clear hy p0 p1 p2 p3 p4 q0 q1 q2 q3 q4
    obtain ⟨⟨p0, p1, p2, p3, p4⟩, _⟩ := P.out.five
    obtain ⟨⟨q0, q1, q2, q3, q4⟩, _⟩ := Q.out.five
    go_wp2_with fail
    refine (KS.out _).mono ?_
    rintro e w4 ⟨rfl, hy⟩
    replace P := Lib.hid (P.out.ext hy)
    replace Q := Lib.hid (Q.out.ext hy)
    replace X := Lib.hid (X.out.trans hy)
    clear hy p0 p1 p2 p3 p4 q0 q1 q2 q3 q4
    go_wp2
    go_ret
    exact ⟨rfl, X.out⟩
  obtain ⟨v1, ⟨r0, r1⟩, v2, v3⟩ := hn_in hk
  obtain ⟨a1, a2⟩ := hn_mk v1 r0 r1 v2 v3
  rw [a1, a2] at KI KS
  by_cases hr : r = 10000
  · have k2 : (r == 10000) = true := beq_iff_eq.2 hr
    generalize hnN a b c d n p q u v m r = N at *
    clear hk hr a1 a2 v1 v2 v3 r0 r1 KM KN
    obtain ⟨⟨p0, p1, p2, p3, p4⟩, _⟩ := P.out.five
    obtain ⟨⟨q0, q1, q2, q3, q4⟩, _⟩ := Q.out.five
    go_wp2_with fail
    refine (KI.out _).mono ?_
    rintro e w3 ⟨rfl, hy⟩
    replace P := Lib.hid (P.out.ext hy)
    replace Q := Lib.hid (Q.out.ext hy)
    replace X := Lib.hid (X.out.trans hy)
    clear hy p0 p1 p2 p3 p4 q0 q1 q2 q3 q4
    obtain ⟨⟨p0, p1, p2, p3, p4⟩, _⟩ := P.out.five
    obtain ⟨⟨q0, q1, q2, q3, q4⟩, _⟩ := Q.out.five
    go_wp2_with fail
    refine (KS.out _).mono ?_
    rintro e w4 ⟨rfl, hy⟩
    replace P := Lib.hid (P.out.ext hy)
    replace Q := Lib.hid (Q.out.ext hy)
    replace X := Lib.hid (X.out.trans hy)
    clear hy p0 p1 p2 p3 p4 q0 q1 q2 q3 q4
    go_wp2
    go_ret
    exact ⟨rfl, X.out⟩
  have k2 : (r == 10000) = false := beq_eq_false_iff_ne.2 hr
  have v1' : h2B p q u v m a b c d n = true := by unfold h2B at v1 ⊢; rw [Bool.and_comm]; exact v1
  obtain ⟨b1, b2⟩ := hn_mk v1' r0 r1 v3 v2
  obtain ⟨c1, c2⟩ := hn_mk (r := r + 1) v1 (by omega) (by omega) v2 v3
  rw [b1, b2, show hnN p q u v m a b c d n r = hnN a b c d n p q u v m r from nr_sym _ _ _ _ _ _ _ _ _] at KM
  rw [c1, c2] at KN
  have up : hnN a b c d n p q u v m r = true → hnN a b c d n p q u v m (r + 1) = true := fun h => nr_up v2 v3 r0 h
  have TR : IntKind.i64.wrap (r + 1) = r + 1 := IntWalk.i64_in _ (by omega)
  clear hk hr a1 a2 b1 b2 c1 c2 v1 v1' v2 v3 r0 r1
  generalize hnN a b c d n p q u v m r = N at *
  generalize hnN a b c d n p q u v m (r + 1) = M at *
  obtain ⟨⟨p0, p1, p2, p3, p4⟩, _⟩ := P.out.five
  obtain ⟨⟨q0, q1, q2, q3, q4⟩, _⟩ := Q.out.five
  go_wp2_with fail
  refine (KI.out _).mono ?_
  rintro e w3 ⟨rfl, hy⟩
  replace P := Lib.hid (P.out.ext hy)
  replace Q := Lib.hid (Q.out.ext hy)
  replace X := Lib.hid (X.out.trans hy)
  clear hy p0 p1 p2 p3 p4 q0 q1 q2 q3 q4
  obtain ⟨⟨p0, p1, p2, p3, p4⟩, _⟩ := P.out.five
  obtain ⟨⟨q0, q1, q2, q3, q4⟩, _⟩ := Q.out.five
  go_wp2_with fail
  refine (KS.out _).mono ?_
  rintro e w4 ⟨rfl, hy⟩
  replace P := Lib.hid (P.out.ext hy)
  replace Q := Lib.hid (Q.out.ext hy)
  replace X := Lib.hid (X.out.trans hy)
  clear hy p0 p1 p2 p3 p4 q0 q1 q2 q3 q4
  obtain ⟨⟨p0, p1, p2, p3, p4⟩, _⟩ := P.out.five
  obtain ⟨⟨q0, q1, q2, q3, q4⟩, _⟩ := Q.out.five
  go_wp2_with fail
  refine (KM.out _).mono ?_
  rintro e w5 ⟨rfl, hy⟩
  replace P := Lib.hid (P.out.ext hy)
  replace Q := Lib.hid (Q.out.ext hy)
  replace X := Lib.hid (X.out.trans hy)
  clear hy p0 p1 p2 p3 p4 q0 q1 q2 q3 q4
  obtain ⟨⟨p0, p1, p2, p3, p4⟩, _⟩ := P.out.five
  obtain ⟨⟨q0, q1, q2, q3, q4⟩, _⟩ := Q.out.five
  go_wp2_with fail
  refine (KN.out _).mono ?_
  rintro e w6 ⟨rfl, hy⟩
  replace P := Lib.hid (P.out.ext hy)
  replace Q := Lib.hid (Q.out.ext hy)
  replace X := Lib.hid (X.out.trans hy)
  clear hy p0 p1 p2 p3 p4 q0 q1 q2 q3 q4
  cases N
  · go_wp2
    go_ret
    exact ⟨rfl, X.out⟩
  · obtain rfl := up rfl
    go_wp2
    go_ret
    exact ⟨rfl, X.out⟩

end Go.Proofs.Ytdcnfeimfpafiaa.fnNear
