/- FnGap: for every code, the gap of the two hulls that are drawn is that of the reference model, it is not negative if the second one is clear astern, that of a hull and itself is its length, negated, and the stern is that of the reference model. No condition. -/
import Derived.Test.YtdcnfeimfpafiaaDrawHl
import Derived.Test.YtdcnfeimfpafiaaHulGp
import Derived.Test.YtdcnfeimfpafiaaHulCa
import Derived.Test.YtdcnfeimfpafiaaHulSt
import Derived.Test.YtdcnfeimfpafiaaBig
import Derived.ChangeOld
import Derived.Below
import Derived.Lib.SmallJoins
import Derived.Deep.DeepCutAuto
namespace Go.Proofs.Ytdcnfeimfpafiaa.fnGap
open Go.ChangeShapes Go.WideShapes Go.ChangeAt Go.RowKit
open Go.Proofs.Ytdcnfeimfpafiaa.Kit Go.Proofs.Ytdcnfeimfpafiaa.Num Go.Proofs.Ytdcnfeimfpafiaa.Draw Go.Proofs.Ytdcnfeimfpafiaa.Pts Go.Proofs.Ytdcnfeimfpafiaa.Hul Go.Proofs.Ytdcnfeimfpafiaa.Seg
set_option linter.unusedVariables false
set_option linter.unusedSimpArgs false

theorem flo_zero (L : Int) : flo 0 L = 0 := by unfold flo; simp
theorem gp_self (a b c d n : Int) : gpN a b c d n a b = -n := by
  unfold gpN alH
  rw [show (a - a) * c + (b - b) * d = 0 by simp, show -(0 : Int) = 0 from rfl, flo_zero]
  omega
theorem flo_ge {k N n : Int} (hk : 0 ≤ k) (hN : 1 ≤ N) (h : n * N ≤ k) : n ≤ flo k N := by
  unfold flo
  rw [if_neg (by have := Int.tmod_nonneg N hk; omega), Int.tdiv_eq_ediv_of_nonneg hk]
  exact (Int.le_ediv_iff_mul_le (by omega)).2 h
theorem gp_pos {a b c d n p q : Int} (hc : -2000000 ≤ c ∧ c ≤ 2000000) (hd : -2000000 ≤ d ∧ d ≤ 2000000) (hn : ¬ (c = 0 ∧ d = 0)) (n1 : 1 ≤ n) (h : caB a b c d n p q = true) : 0 ≤ gpN a b c d n p q := by
  obtain ⟨l1, _⟩ := Lth.ln2_pos hc hd hn
  obtain ⟨s0, _⟩ := Lth.sqs_bd hc hd
  unfold caB at h
  rw [Bool.and_eq_true, decide_eq_true_eq, decide_eq_true_eq] at h
  have hs : Lth.ln2 c d * Lth.ln2 c d ≤ c * c + d * d := Rt.rt_sq s0
  unfold gpN
  generalize alH a b c d p q = A at *
  generalize Lth.ln2 c d = L at *
  generalize c * c + d * d = Q at *
  have h1 : n * L * (n * L) ≤ n * n * Q := by
    rw [show n * L * (n * L) = n * n * (L * L) by grind]
    exact Int.mul_le_mul_of_nonneg_left hs (Int.mul_nonneg (by omega) (by omega))
  have h2 := Rt.rt_max (Int.mul_nonneg (show 0 ≤ n by omega) (show 0 ≤ L by omega)) h1
  have h3 := flo_ge (k := -A) (N := L) (n := n) (by omega) l1 (by omega)
  omega

set_option maxRecDepth 100000 in
set_option maxHeartbeats 8000000 in
theorem walk (c0 : Option Addr) (len cap : Nat) (zs : List Int) (w : World) (hr : IsRow .u8 w c0 len cap zs) :
    Calls Try.prog 4 #[.slice c0 len cap] w fun e w' => e = .returned (.bool true) ∧ Ext w w' := by
  have HB := Lib.hid hr.bytes
  clear hr
  by_cases hl : 4096 < len
  · have g := show bigB len = true from decide_eq_true hl
    go_enter Try.func4, Try.ntmps4
    go_wp2_with (go_at_call 14; refine (big_any _ _ _ _).mono ?_; rintro e w' ⟨rfl, rfl⟩)
    go_ret
    exact ⟨rfl, Ext.refl _⟩
  have g := show bigB len = false from decide_eq_false hl
  go_enter Try.func4, Try.ntmps4
  go_wp2_with fail
  refine (big_any _ _ _ _).mono ?_
  rintro e w' ⟨rfl, rfl⟩
  go_wp2_with fail
  refine (drawGapBehind_any c0 len cap _ HB.out (by omega)).mono ?_
  rintro e w1 ⟨a, b, c, d, n, p, q, u, v, m, rfl, hx⟩
  obtain ⟨W2, hW2⟩ : ∃ W2, W2 = (w1.alloc (.cells #[.int .i64 a, .int .i64 b, .int .i64 c, .int .i64 d, .int .i64 n] 27)).alloc (.cells #[.int .i64 p, .int .i64 q, .int .i64 u, .int .i64 v, .int .i64 m] 27) := ⟨_, rfl⟩
  have X := Lib.hid (show Ext w W2 from hW2 ▸ (hx.alloc _).alloc _)
  have P := Lib.hid (show Box W2 w1.heap.size [.int .i64 a, .int .i64 b, .int .i64 c, .int .i64 d, .int .i64 n] from hW2 ▸ (Box.new5 rfl).alloc _)
  have Q := Lib.hid (show Box W2 (w1.heap.size + 1) [.int .i64 p, .int .i64 q, .int .i64 u, .int .i64 v, .int .i64 m] from hW2 ▸ Box.new5 (by simp))
  clear hx HB g hl
  go_upto_region 4 with fail
  rw [← hW2]
  clear hW2
  have KI := Lib.hid (fun w => gapBehind_impl a b c d n p q u v m w)
  have KS := Lib.hid (fun w => gapBehind_spec a b c d n p q u v m w)
  have KC := Lib.hid (fun w => clearAstern_impl a b c d n p q u v m w)
  have KM := Lib.hid (fun w => gapBehind_impl a b c d n a b c d n w)
  have KT := Lib.hid (fun w => sternOf_impl a b c d n w)
  have KU := Lib.hid (fun w => sternOf_spec a b c d n w)
  cases hv : h2B a b c d n p q u v m
  · rw [show gpV a b c d n p q u v m = 0 from if_no hv, show h2C a b c d n p q u v m = 1 from if_no hv] at KI KS
    obtain ⟨⟨p0, p1, p2, p3, p4⟩, _⟩ := P.out.five
    obtain ⟨⟨q0, q1, q2, q3, q4⟩, _⟩ := Q.out.five
    go_wp2_with fail
    refine (KI.out _).mono ?_
    rintro e w3 ⟨rfl, hy⟩
    replace P := Lib.hid (P.out.ext hy)
    replace Q := Lib.hid (Q.out.ext hy)
    replace X := Lib.hid (X.out.trans hy)
    clear hy p0 p1 p2 p3 p4 q0 q1 q2 q3 q4
    obtain ⟨⟨p0, p1, p2, p3, p4⟩, _⟩ := P.out.five
    obtain ⟨⟨q0, q1, q2, q3, q4⟩, _⟩ := Q.out.five
    go_wp2_with fail
    refine (KS.out _).mono ?_
    rintro e w4 ⟨rfl, hy⟩
    replace P := Lib.hid (P.out.ext hy)
    replace Q := Lib.hid (Q.out.ext hy)
    replace X := Lib.hid (X.out.trans hy)
    clear hy p0 p1 p2 p3 p4 q0 q1 q2 q3 q4
    go_wp2
    go_ret
    exact ⟨rfl, X.out⟩
  have ha : hlB a b c d n = true := by
    unfold h2B at hv
    rw [Bool.and_eq_true] at hv
    exact hv.1
  have hv2 : h2B a b c d n a b c d n = true := h2_yes ha ha
  obtain ⟨_, ⟨hc, hd, hn⟩, n1, n2⟩ := hlB_yes ha
  have GP := Lib.hid (fun h => gp_pos (a := a) (b := b) (p := p) (q := q) hc hd hn n1 h)
  rw [show gpV a b c d n p q u v m = gpN a b c d n p q from if_yes hv, show h2C a b c d n p q u v m = 0 from if_yes hv] at KI KS
  rw [show gpV a b c d n a b c d n = -n from (if_yes hv2).trans (gp_self a b c d n), show h2C a b c d n a b c d n = 0 from if_yes hv2] at KM
  rw [show caV a b c d n p q u v m = caB a b c d n p q from if_yes hv, show h2C a b c d n p q u v m = 0 from if_yes hv] at KC
  rw [show soC a b c d n = 0 from if_yes ha] at KT KU
  have TN : IntKind.i64.wrap (-n) = -n := IntWalk.i64_in _ (by omega)
  clear hv hv2 ha hc hd hn n1 n2
  generalize caB a b c d n p q = C at *
  generalize gpN a b c d n p q = G at *
  generalize soX a b c d n = x at *
  generalize soY a b c d n = y at *
  obtain ⟨⟨p0, p1, p2, p3, p4⟩, _⟩ := P.out.five
  obtain ⟨⟨q0, q1, q2, q3, q4⟩, _⟩ := Q.out.five
  go_wp2_with fail
  refine (KI.out _).mono ?_
  rintro e w3 ⟨rfl, hy⟩
  replace P := Lib.hid (P.out.ext hy)
  replace Q := Lib.hid (Q.out.ext hy)
  replace X := Lib.hid (X.out.trans hy)
  clear hy p0 p1 p2 p3 p4 q0 q1 q2 q3 q4
  obtain ⟨⟨p0, p1, p2, p3, p4⟩, _⟩ := P.out.five
  obtain ⟨⟨q0, q1, q2, q3, q4⟩, _⟩ := Q.out.five
  go_wp2_with fail
  refine (KS.out _).mono ?_
  rintro e w4 ⟨rfl, hy⟩
  replace P := Lib.hid (P.out.ext hy)
  replace Q := Lib.hid (Q.out.ext hy)
  replace X := Lib.hid (X.out.trans hy)
  clear hy p0 p1 p2 p3 p4 q0 q1 q2 q3 q4
  obtain ⟨⟨p0, p1, p2, p3, p4⟩, _⟩ := P.out.five
  obtain ⟨⟨q0, q1, q2, q3, q4⟩, _⟩ := Q.out.five
  go_wp2_with fail
  refine (KC.out _).mono ?_
  rintro e w5 ⟨rfl, hy⟩
  replace P := Lib.hid (P.out.ext hy)
  replace Q := Lib.hid (Q.out.ext hy)
  replace X := Lib.hid (X.out.trans hy)
  clear hy p0 p1 p2 p3 p4 q0 q1 q2 q3 q4
  obtain ⟨⟨p0, p1, p2, p3, p4⟩, _⟩ := P.out.five
  obtain ⟨⟨q0, q1, q2, q3, q4⟩, _⟩ := Q.out.five
  go_wp2_with fail
  refine (KM.out _).mono ?_
  rintro e w6 ⟨rfl, hy⟩
  replace P := Lib.hid (P.out.ext hy)
  replace Q := Lib.hid (Q.out.ext hy)
  replace X := Lib.hid (X.out.trans hy)
  clear hy p0 p1 p2 p3 p4 q0 q1 q2 q3 q4
  obtain ⟨⟨p0, p1, p2, p3, p4⟩, _⟩ := P.out.five
  obtain ⟨⟨q0, q1, q2, q3, q4⟩, _⟩ := Q.out.five
  go_wp2_with fail
  refine (KT.out _).mono ?_
  rintro e w7 ⟨rfl, hy⟩
  replace P := Lib.hid (P.out.ext hy)
  replace Q := Lib.hid (Q.out.ext hy)
  replace X := Lib.hid (X.out.trans hy)
  clear hy p0 p1 p2 p3 p4 q0 q1 q2 q3 q4
  obtain ⟨W8, hW8⟩ : ∃ W8, W8 = w7.alloc (.cells #[.int .i64 x, .int .i64 y] 25) := ⟨_, rfl⟩
  have R := Lib.hid (show Box W8 w7.heap.size [.int .i64 x, .int .i64 y] from hW8 ▸ Box.new2 rfl)
  replace P := Lib.hid (show Box W8 w1.heap.size [.int .i64 a, .int .i64 b, .int .i64 c, .int .i64 d, .int .i64 n] from hW8 ▸ P.out.alloc _)
  replace X := Lib.hid (show Ext w W8 from hW8 ▸ X.out.alloc _)
  clear Q
  go_upto_region 13 with fail
  rw [← hW8]
  clear hW8
  obtain ⟨⟨p0, p1, p2, p3, p4⟩, _⟩ := P.out.five
  go_wp2_with fail
  refine (KU.out _).mono ?_
  rintro e w9 ⟨rfl, hy⟩
  obtain ⟨W9, hW9⟩ : ∃ W9, W9 = w9.alloc (.cells #[.int .i64 x, .int .i64 y] 25) := ⟨_, rfl⟩
  have hz : Ext W8 W9 := hW9 ▸ hy.alloc _
  have U := Lib.hid (show Box W9 w9.heap.size [.int .i64 x, .int .i64 y] from hW9 ▸ Box.new2 rfl)
  replace P := Lib.hid (P.out.ext hz)
  replace R := Lib.hid (R.out.ext hz)
  replace X := Lib.hid (X.out.trans hz)
  clear hy hz p0 p1 p2 p3 p4
  go_upto_region 14 with fail
  rw [← hW9]
  clear hW9
  obtain ⟨⟨_, _, _, _, p4⟩, _⟩ := P.out.five
  obtain ⟨⟨r0, r1⟩, _⟩ := R.out.two
  obtain ⟨⟨u0, u1⟩, _⟩ := U.out.two
  cases C
  · go_wp2
    go_ret
    exact ⟨rfl, X.out⟩
  · have g0 := GP.out rfl
    have g1 : decide (0 ≤ G) = true := decide_eq_true g0
    have g2 : decide (G ≥ 0) = true := decide_eq_true g0
    clear g0
    go_wp2
    go_ret
    exact ⟨rfl, X.out⟩

end Go.Proofs.Ytdcnfeimfpafiaa.fnGap
