/- FnOverlap: for every code, the relation of the two hulls that are drawn is that of the reference model, it is mirrored if they are exchanged, and of two with the same heading at most one is clear astern. No condition. -/
import Derived.Test.YtdcnfeimfpafiaaDrawHl
import Derived.Test.YtdcnfeimfpafiaaHulOv
import Derived.Test.YtdcnfeimfpafiaaHulCa
import Derived.Test.YtdcnfeimfpafiaaBig
import Derived.ChangeOld
import Derived.Below
import Derived.Lib.SmallJoins
import Derived.Deep.DeepCutAuto
namespace Go.Proofs.Ytdcnfeimfpafiaa.fnOverlap
open Go.ChangeShapes Go.WideShapes Go.ChangeAt Go.RowKit
open Go.Proofs.Ytdcnfeimfpafiaa.Kit Go.Proofs.Ytdcnfeimfpafiaa.Num Go.Proofs.Ytdcnfeimfpafiaa.Draw Go.Proofs.Ytdcnfeimfpafiaa.Pts Go.Proofs.Ytdcnfeimfpafiaa.Hul Go.Proofs.Ytdcnfeimfpafiaa.Seg
set_option linter.unusedVariables false
set_option linter.unusedSimpArgs false

theorem h2_comm (a b c d n p q u v m : Int) : h2B p q u v m a b c d n = h2B a b c d n p q u v m := Bool.and_comm _ _
theorem ca_lt {a b c d n p q : Int} (h : caB a b c d n p q = true) : alH a b c d p q < 0 := by
  unfold caB at h
  rw [Bool.and_eq_true] at h
  exact of_decide_eq_true h.1
theorem not_both {a b c d n p q u v m : Int} (h : caB a b c d n p q = true) (g : caB p q u v m a b = true) : ¬ (c = u ∧ d = v) := by
  rintro ⟨rfl, rfl⟩
  have h1 := ca_lt h
  have h2 := ca_lt g
  have e : alH p q c d a b = -alH a b c d p q := by unfold alH; grind
  omega

set_option maxRecDepth 100000 in
set_option maxHeartbeats 8000000 in
theorem walk (c0 : Option Addr) (len cap : Nat) (zs : List Int) (w : World) (hr : IsRow .u8 w c0 len cap zs) :
    Calls Try.prog 3 #[.slice c0 len cap] w fun e w' => e = .returned (.bool true) ∧ Ext w w' := by
  have HB := Lib.hid hr.bytes
  clear hr
  by_cases hl : 4096 < len
  · have g := show bigB len = true from decide_eq_true hl
    go_enter Try.func3, Try.ntmps3
    go_wp2_with (go_at_call 14; refine (big_any _ _ _ _).mono ?_; rintro e w' ⟨rfl, rfl⟩)
    go_ret
    exact ⟨rfl, Ext.refl _⟩
  have g := show bigB len = false from decide_eq_false hl
  go_enter Try.func3, Try.ntmps3
  go_wp2_with fail
  refine (big_any _ _ _ _).mono ?_
  rintro e w' ⟨rfl, rfl⟩
  go_wp2_with fail
  refine (drawOverlapOf_any c0 len cap _ HB.out (by omega)).mono ?_
  rintro e w1 ⟨a, b, c, d, n, p, q, u, v, m, rfl, hx⟩
  obtain ⟨W2, hW2⟩ : ∃ W2, W2 = (w1.alloc (.cells #[.int .i64 a, .int .i64 b, .int .i64 c, .int .i64 d, .int .i64 n] 27)).alloc (.cells #[.int .i64 p, .int .i64 q, .int .i64 u, .int .i64 v, .int .i64 m] 27) := ⟨_, rfl⟩
  have X := Lib.hid (show Ext w W2 from hW2 ▸ (hx.alloc _).alloc _)
  have P := Lib.hid (show Box W2 w1.heap.size [.int .i64 a, .int .i64 b, .int .i64 c, .int .i64 d, .int .i64 n] from hW2 ▸ (Box.new5 rfl).alloc _)
  have Q := Lib.hid (show Box W2 (w1.heap.size + 1) [.int .i64 p, .int .i64 q, .int .i64 u, .int .i64 v, .int .i64 m] from hW2 ▸ Box.new5 (by simp))
  clear hx HB g hl
  go_upto_region 4 with fail
  rw [← hW2]
  clear hW2
  have KI := Lib.hid (fun w => overlapOf_impl a b c d n p q u v m w)
  have KS := Lib.hid (fun w => overlapOf_spec a b c d n p q u v m w)
  have KM := Lib.hid (fun w => overlapOf_impl p q u v m a b c d n w)
  have KC := Lib.hid (fun w => clearAstern_impl a b c d n p q u v m w)
  have KD := Lib.hid (fun w => clearAstern_impl p q u v m a b c d n w)
  cases hv : h2B a b c d n p q u v m
  · rw [show ovV a b c d n p q u v m = 0 from if_no hv, show h2C a b c d n p q u v m = 1 from if_no hv] at KI KS
    obtain ⟨⟨p0, p1, p2, p3, p4⟩, _⟩ := P.out.five
    obtain ⟨⟨q0, q1, q2, q3, q4⟩, _⟩ := Q.out.five
    go_wp2_with fail
    refine (KI.out _).mono ?_
    rintro e w3 ⟨rfl, hy⟩
    replace P := Lib.hid (P.out.ext hy)
    replace Q := Lib.hid (Q.out.ext hy)
    replace X := Lib.hid (X.out.trans hy)
    clear hy p0 p1 p2 p3 p4 q0 q1 q2 q3 q4
    obtain ⟨⟨p0, p1, p2, p3, p4⟩, _⟩ := P.out.five
    obtain ⟨⟨q0, q1, q2, q3, q4⟩, _⟩ := Q.out.five
    go_wp2_with fail
    refine (KS.out _).mono ?_
    rintro e w4 ⟨rfl, hy⟩
    replace P := Lib.hid (P.out.ext hy)
    replace Q := Lib.hid (Q.out.ext hy)
    replace X := Lib.hid (X.out.trans hy)
    clear hy p0 p1 p2 p3 p4 q0 q1 q2 q3 q4
    go_wp2
    go_ret
    exact ⟨rfl, X.out⟩
  have hv2 : h2B p q u v m a b c d n = true := (h2_comm _ _ _ _ _ _ _ _ _ _).trans hv
  rw [show ovV a b c d n p q u v m = ovN (caB a b c d n p q) (caB p q u v m a b) from if_yes hv, show h2C a b c d n p q u v m = 0 from if_yes hv] at KI KS
  rw [show ovV p q u v m a b c d n = ovN (caB p q u v m a b) (caB a b c d n p q) from if_yes hv2, show h2C p q u v m a b c d n = 0 from if_yes hv2] at KM
  rw [show caV a b c d n p q u v m = caB a b c d n p q from if_yes hv, show h2C a b c d n p q u v m = 0 from if_yes hv] at KC
  rw [show caV p q u v m a b c d n = caB p q u v m a b from if_yes hv2, show h2C p q u v m a b c d n = 0 from if_yes hv2] at KD
  have hne : caB a b c d n p q = true → caB p q u v m a b = true → ¬ (c = u ∧ d = v) := fun h g => not_both h g
  clear hv hv2
  generalize caB a b c d n p q = C at *
  generalize caB p q u v m a b = D at *
  obtain ⟨⟨p0, p1, p2, p3, p4⟩, _⟩ := P.out.five
  obtain ⟨⟨q0, q1, q2, q3, q4⟩, _⟩ := Q.out.five
  go_wp2_with fail
  refine (KI.out _).mono ?_
  rintro e w3 ⟨rfl, hy⟩
  replace P := Lib.hid (P.out.ext hy)
  replace Q := Lib.hid (Q.out.ext hy)
  replace X := Lib.hid (X.out.trans hy)
  clear hy p0 p1 p2 p3 p4 q0 q1 q2 q3 q4
  obtain ⟨⟨p0, p1, p2, p3, p4⟩, _⟩ := P.out.five
  obtain ⟨⟨q0, q1, q2, q3, q4⟩, _⟩ := Q.out.five
  go_wp2_with fail
  refine (KS.out _).mono ?_
  rintro e w4 ⟨rfl, hy⟩
  replace P := Lib.hid (P.out.ext hy)
  replace Q := Lib.hid (Q.out.ext hy)
  replace X := Lib.hid (X.out.trans hy)
  clear hy p0 p1 p2 p3 p4 q0 q1 q2 q3 q4
  cases C <;> cases D
  · have N1 : ovN false false = 0 := rfl
    have N2 : ovN false false = 0 := rfl
    rw [N2] at KM
    clear N2 KI KS
    (try rw [N1])
    clear N1
    obtain ⟨⟨p0, p1, p2, p3, p4⟩, _⟩ := P.out.five
    obtain ⟨⟨q0, q1, q2, q3, q4⟩, _⟩ := Q.out.five
    go_wp2_with fail
    refine (KM.out _).mono ?_
    rintro e w5 ⟨rfl, hy⟩
    replace P := Lib.hid (P.out.ext hy)
    replace Q := Lib.hid (Q.out.ext hy)
    replace X := Lib.hid (X.out.trans hy)
    clear hy p0 p1 p2 p3 p4 q0 q1 q2 q3 q4
    obtain ⟨⟨p0, p1, p2, p3, p4⟩, _⟩ := P.out.five
    obtain ⟨⟨q0, q1, q2, q3, q4⟩, _⟩ := Q.out.five
    go_wp2_with fail
    refine (KC.out _).mono ?_
    rintro e w6 ⟨rfl, hy⟩
    replace P := Lib.hid (P.out.ext hy)
    replace Q := Lib.hid (Q.out.ext hy)
    replace X := Lib.hid (X.out.trans hy)
    clear hy p0 p1 p2 p3 p4 q0 q1 q2 q3 q4
    obtain ⟨⟨p0, p1, p2, p3, p4⟩, _⟩ := P.out.five
    obtain ⟨⟨q0, q1, q2, q3, q4⟩, _⟩ := Q.out.five
    go_wp2_with fail
    refine (KD.out _).mono ?_
    rintro e w7 ⟨rfl, hy⟩
    replace P := Lib.hid (P.out.ext hy)
    replace Q := Lib.hid (Q.out.ext hy)
    replace X := Lib.hid (X.out.trans hy)
    clear hy p0 p1 p2 p3 p4 q0 q1 q2 q3 q4
    obtain ⟨⟨p0, p1, p2, p3, p4⟩, _⟩ := P.out.five
    obtain ⟨⟨q0, q1, q2, q3, q4⟩, _⟩ := Q.out.five
    cases h1 : (c == u) <;> cases h2 : (d == v)
    all_goals first
    | exact absurd (And.intro (beq_iff_eq.1 h1) (beq_iff_eq.1 h2)) (hne (by first | rfl | trivial) (by first | rfl | trivial))
    | (go_wp2
       go_ret
       exact ⟨rfl, X.out⟩)
  · have N1 : ovN false true = 2 := rfl
    have N2 : ovN true false = 1 := rfl
    rw [N2] at KM
    clear N2 KI KS
    (try rw [N1])
    clear N1
    obtain ⟨⟨p0, p1, p2, p3, p4⟩, _⟩ := P.out.five
    obtain ⟨⟨q0, q1, q2, q3, q4⟩, _⟩ := Q.out.five
    go_wp2_with fail
    refine (KM.out _).mono ?_
    rintro e w5 ⟨rfl, hy⟩
    replace P := Lib.hid (P.out.ext hy)
    replace Q := Lib.hid (Q.out.ext hy)
    replace X := Lib.hid (X.out.trans hy)
    clear hy p0 p1 p2 p3 p4 q0 q1 q2 q3 q4
    obtain ⟨⟨p0, p1, p2, p3, p4⟩, _⟩ := P.out.five
    obtain ⟨⟨q0, q1, q2, q3, q4⟩, _⟩ := Q.out.five
    go_wp2_with fail
    refine (KC.out _).mono ?_
    rintro e w6 ⟨rfl, hy⟩
    replace P := Lib.hid (P.out.ext hy)
    replace Q := Lib.hid (Q.out.ext hy)
    replace X := Lib.hid (X.out.trans hy)
    clear hy p0 p1 p2 p3 p4 q0 q1 q2 q3 q4
    obtain ⟨⟨p0, p1, p2, p3, p4⟩, _⟩ := P.out.five
    obtain ⟨⟨q0, q1, q2, q3, q4⟩, _⟩ := Q.out.five
    go_wp2_with fail
    refine (KD.out _).mono ?_
    rintro e w7 ⟨rfl, hy⟩
    replace P := Lib.hid (P.out.ext hy)
    replace Q := Lib.hid (Q.out.ext hy)
    replace X := Lib.hid (X.out.trans hy)
    clear hy p0 p1 p2 p3 p4 q0 q1 q2 q3 q4
    obtain ⟨⟨p0, p1, p2, p3, p4⟩, _⟩ := P.out.five
    obtain ⟨⟨q0, q1, q2, q3, q4⟩, _⟩ := Q.out.five
    cases h1 : (c == u) <;> cases h2 : (d == v)
    all_goals first
    | exact absurd (And.intro (beq_iff_eq.1 h1) (beq_iff_eq.1 h2)) (hne (by first | rfl | trivial) (by first | rfl | trivial))
    | (go_wp2
       go_ret
       exact ⟨rfl, X.out⟩)
  · have N1 : ovN true false = 1 := rfl
    have N2 : ovN false true = 2 := rfl
    rw [N2] at KM
    clear N2 KI KS
    (try rw [N1])
    clear N1
    obtain ⟨⟨p0, p1, p2, p3, p4⟩, _⟩ := P.out.five
    obtain ⟨⟨q0, q1, q2, q3, q4⟩, _⟩ := Q.out.five
    go_wp2_with fail
    refine (KM.out _).mono ?_
    rintro e w5 ⟨rfl, hy⟩
    replace P := Lib.hid (P.out.ext hy)
    replace Q := Lib.hid (Q.out.ext hy)
    replace X := Lib.hid (X.out.trans hy)
    clear hy p0 p1 p2 p3 p4 q0 q1 q2 q3 q4
    obtain ⟨⟨p0, p1, p2, p3, p4⟩, _⟩ := P.out.five
    obtain ⟨⟨q0, q1, q2, q3, q4⟩, _⟩ := Q.out.five
    go_wp2_with fail
    refine (KC.out _).mono ?_
    rintro e w6 ⟨rfl, hy⟩
    replace P := Lib.hid (P.out.ext hy)
    replace Q := Lib.hid (Q.out.ext hy)
    replace X := Lib.hid (X.out.trans hy)
    clear hy p0 p1 p2 p3 p4 q0 q1 q2 q3 q4
    obtain ⟨⟨p0, p1, p2, p3, p4⟩, _⟩ := P.out.five
    obtain ⟨⟨q0, q1, q2, q3, q4⟩, _⟩ := Q.out.five
    go_wp2_with fail
    refine (KD.out _).mono ?_
    rintro e w7 ⟨rfl, hy⟩
    replace P := Lib.hid (P.out.ext hy)
    replace Q := Lib.hid (Q.out.ext hy)
    replace X := Lib.hid (X.out.trans hy)
    clear hy p0 p1 p2 p3 p4 q0 q1 q2 q3 q4
    obtain ⟨⟨p0, p1, p2, p3, p4⟩, _⟩ := P.out.five
    obtain ⟨⟨q0, q1, q2, q3, q4⟩, _⟩ := Q.out.five
    cases h1 : (c == u) <;> cases h2 : (d == v)
    all_goals first
    | exact absurd (And.intro (beq_iff_eq.1 h1) (beq_iff_eq.1 h2)) (hne (by first | rfl | trivial) (by first | rfl | trivial))
    | (go_wp2
       go_ret
       exact ⟨rfl, X.out⟩)
  · have N1 : ovN true true = 3 := rfl
    have N2 : ovN true true = 3 := rfl
    rw [N2] at KM
    clear N2 KI KS
    (try rw [N1])
    clear N1
    obtain ⟨⟨p0, p1, p2, p3, p4⟩, _⟩ := P.out.five
    obtain ⟨⟨q0, q1, q2, q3, q4⟩, _⟩ := Q.out.five
    go_wp2_with fail
    refine (KM.out _).mono ?_
    rintro e w5 ⟨rfl, hy⟩
    replace P := Lib.hid (P.out.ext hy)
    replace Q := Lib.hid (Q.out.ext hy)
    replace X := Lib.hid (X.out.trans hy)
    clear hy p0 p1 p2 p3 p4 q0 q1 q2 q3 q4
    obtain ⟨⟨p0, p1, p2, p3, p4⟩, _⟩ := P.out.five
    obtain ⟨⟨q0, q1, q2, q3, q4⟩, _⟩ := Q.out.five
    go_wp2_with fail
    refine (KC.out _).mono ?_
    rintro e w6 ⟨rfl, hy⟩
    replace P := Lib.hid (P.out.ext hy)
    replace Q := Lib.hid (Q.out.ext hy)
    replace X := Lib.hid (X.out.trans hy)
    clear hy p0 p1 p2 p3 p4 q0 q1 q2 q3 q4
    obtain ⟨⟨p0, p1, p2, p3, p4⟩, _⟩ := P.out.five
    obtain ⟨⟨q0, q1, q2, q3, q4⟩, _⟩ := Q.out.five
    go_wp2_with fail
    refine (KD.out _).mono ?_
    rintro e w7 ⟨rfl, hy⟩
    replace P := Lib.hid (P.out.ext hy)
    replace Q := Lib.hid (Q.out.ext hy)
    replace X := Lib.hid (X.out.trans hy)
    clear hy p0 p1 p2 p3 p4 q0 q1 q2 q3 q4
    obtain ⟨⟨p0, p1, p2, p3, p4⟩, _⟩ := P.out.five
    obtain ⟨⟨q0, q1, q2, q3, q4⟩, _⟩ := Q.out.five
    cases h1 : (c == u) <;> cases h2 : (d == v)
    all_goals first
    | exact absurd (And.intro (beq_iff_eq.1 h1) (beq_iff_eq.1 h2)) (hne (by first | rfl | trivial) (by first | rfl | trivial))
    | (go_wp2
       go_ret
       exact ⟨rfl, X.out⟩)

end Go.Proofs.Ytdcnfeimfpafiaa.fnOverlap
