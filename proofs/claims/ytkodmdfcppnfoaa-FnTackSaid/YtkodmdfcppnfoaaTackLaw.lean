/- FnTack: for every code, the tack and the point of sailing of the heading that is drawn are those of the reference model; the opposite heading is on the other tack, and upwind exactly if the heading is downwind. No condition. -/
import Derived.Test.YtkodmdfcppnfoaaDrawWe
import Derived.Test.YtkodmdfcppnfoaaWnd2
import Derived.Test.YtkodmdfcppnfoaaBig
import Derived.ChangeOld
import Derived.Below
import Derived.Lib.SmallJoins
import Derived.Deep.DeepCutAuto
namespace Go.Proofs.Ytkodmdfcppnfoaa.fnTack
open Go.ChangeShapes Go.WideShapes Go.ChangeAt Go.RowKit
open Go.Proofs.Ytkodmdfcppnfoaa.Kit Go.Proofs.Ytkodmdfcppnfoaa.Num Go.Proofs.Ytkodmdfcppnfoaa.Draw Go.Proofs.Ytkodmdfcppnfoaa.Pts Go.Proofs.Ytkodmdfcppnfoaa.Wnd Go.Proofs.Ytkodmdfcppnfoaa.Gcd
set_option linter.unusedVariables false
set_option linter.unusedSimpArgs false

theorem neg_cross (x y u v : Int) : -u * y - -v * x = -(u * y - v * x) := by grind
theorem neg_dot (x y u v : Int) : -u * x + -v * y = -(u * x + v * y) := by grind
theorem hd_neg {u v : Int} (h : hdB u v = true) : hdB (-u) (-v) = true := by
  obtain ⟨h1, h2, h3⟩ := hdB_yes h
  have e1 : inB (-u) (-2000000) 2000000 = true := inB_yes (by omega) (by omega)
  have e2 : inB (-v) (-2000000) 2000000 = true := inB_yes (by omega) (by omega)
  have e3 : (-u == 0 && -v == 0) = false := by
    cases h : (-u == 0 && -v == 0)
    · rfl
    · exfalso; apply h3
      rw [Bool.and_eq_true, beq_iff_eq, beq_iff_eq] at h
      omega
  unfold hdB
  rw [e1, e2, e3]; rfl
theorem ab_neg (c : Int) : ab (-c) = ab c := by unfold ab; split <;> split <;> omega
theorem sl_neg (c d : Int) : slN c d + slN (-c) (-d) = 4 := by
  unfold slN
  rw [ab_neg]
  by_cases h1 : d < 0
  · by_cases h2 : ab c ≤ -d
    · rw [if_pos ⟨h1, h2⟩, if_neg (by omega), if_pos ⟨by omega, h2⟩]; rfl
    · rw [if_neg (fun h => h2 h.2), if_neg (by omega), if_neg (by omega), if_neg (fun h => h2 h.2)]; rfl
  · by_cases h3 : 0 < d
    · by_cases h2 : ab c ≤ d
      · rw [if_neg (by omega), if_pos ⟨h3, h2⟩, if_pos ⟨by omega, by omega⟩]; rfl
      · rw [if_neg (by omega), if_neg (fun h => h2 h.2), if_neg (by omega), if_neg (by omega)]; rfl
    · rw [if_neg (by omega), if_neg (by omega), if_neg (by omega), if_neg (by omega)]; rfl
theorem tk_neg (c : Int) : (tkN c = 0 ∧ tkN (-c) = 0) ∨ (tkN c = 1 ∧ tkN (-c) = 2) ∨ (tkN c = 2 ∧ tkN (-c) = 1) := by
  unfold tkN
  by_cases h1 : c < 0
  · rw [if_pos h1, if_neg (by omega), if_pos (by omega)]; exact .inr (.inl ⟨rfl, rfl⟩)
  · by_cases h2 : 0 < c
    · rw [if_neg h1, if_pos h2, if_pos (by omega)]; exact .inr (.inr ⟨rfl, rfl⟩)
    · rw [if_neg h1, if_neg h2, if_neg (by omega), if_neg (by omega)]; exact .inl ⟨rfl, rfl⟩

set_option maxRecDepth 100000 in
set_option maxHeartbeats 4000000 in
theorem walk (c : Option Addr) (len cap : Nat) (zs : List Int) (w : World) (hr : IsRow .u8 w c len cap zs) :
    Calls Try.prog 3 #[.slice c len cap] w fun e w' => e = .returned (.bool true) ∧ Ext w w' := by
  have HB := Lib.hid hr.bytes
  clear hr
  by_cases hl : 4096 < len
  · have g := show bigB len = true from decide_eq_true hl
    go_enter Try.func3, Try.ntmps3
    go_wp2_with (go_at_call 13; refine (big_any _ _ _ _).mono ?_; rintro e w' ⟨rfl, rfl⟩)
    go_ret
    exact ⟨rfl, Ext.refl _⟩
  have g := show bigB len = false from decide_eq_false hl
  go_enter Try.func3, Try.ntmps3
  go_wp2_with fail
  refine (big_any _ _ _ _).mono ?_
  rintro e w' ⟨rfl, rfl⟩
  go_wp2_with fail
  refine (drawTackOf_any c len cap _ HB.out (by omega)).mono ?_
  rintro e w1 ⟨x, y, u, v, rfl, hx⟩
  obtain ⟨W2, hW2⟩ : ∃ W2, W2 = (w1.alloc (.cells #[.int .i64 x, .int .i64 y] 25)).alloc (.cells #[.int .i64 u, .int .i64 v] 26) := ⟨_, rfl⟩
  have X := Lib.hid (show Ext w W2 from hW2 ▸ (hx.alloc _).alloc _)
  have P := Lib.hid (show Box W2 w1.heap.size [.int .i64 x, .int .i64 y] from hW2 ▸ (Box.new2 rfl).alloc _)
  have Q := Lib.hid (show Box W2 (w1.heap.size + 1) [.int .i64 u, .int .i64 v] from hW2 ▸ Box.new2 (by simp))
  clear hx HB g hl
  go_upto_region 4 with fail
  rw [← hW2]
  clear hW2
  obtain ⟨⟨p0, p1⟩, _, _⟩ := P.out.two
  obtain ⟨⟨q0, q1⟩, _, _⟩ := Q.out.two
  go_wp2_with fail
  refine (tackOf_impl _ _ _ _ _).mono ?_
  rintro e w3 ⟨rfl, hy⟩
  replace p0 := hy.cellOf p0
  replace p1 := hy.cellOf p1
  replace q0 := hy.cellOf q0
  replace q1 := hy.cellOf q1
  replace X := Lib.hid (X.out.trans hy)
  clear hy P Q
  go_wp2_with fail
  refine (tackOf_spec _ _ _ _ _).mono ?_
  rintro e w4 ⟨rfl, hy⟩
  replace p0 := hy.cellOf p0
  replace p1 := hy.cellOf p1
  replace q0 := hy.cellOf q0
  replace q1 := hy.cellOf q1
  replace X := Lib.hid (X.out.trans hy)
  clear hy
  go_wp2_with fail
  refine (sailOf_impl _ _ _ _ _).mono ?_
  rintro e w5 ⟨rfl, hy⟩
  replace p0 := hy.cellOf p0
  replace p1 := hy.cellOf p1
  replace q0 := hy.cellOf q0
  replace q1 := hy.cellOf q1
  replace X := Lib.hid (X.out.trans hy)
  clear hy
  by_cases hv : wdB x y = true ∧ hdB u v = true
  rotate_left
  · have hc : toC x y u v = 1 := if_neg hv
    rw [hc]
    clear hv hc
    go_wp2
    go_ret
    exact ⟨rfl, X.out⟩
  have hc : toC x y u v = 0 := if_pos hv
  have hn := hd_neg hv.2
  obtain ⟨_, ⟨b1, b2⟩, b3⟩ := (show (-1000 ≤ x ∧ x ≤ 1000) ∧ ((-2000000 ≤ u ∧ u ≤ 2000000) ∧ -2000000 ≤ v ∧ v ≤ 2000000) ∧ True from ⟨(wdB_yes hv.1).1, ⟨(hdB_yes hv.2).1, (hdB_yes hv.2).2.1⟩, trivial⟩)
  have hv2 : wdB x y = true ∧ hdB (-u) (-v) = true := ⟨hv.1, hn⟩
  have hc2 : toC x y (-u) (-v) = 0 := if_pos hv2
  have KT := Lib.hid (fun w' => tackOf_impl x y (-u) (-v) w')
  have KS := Lib.hid (fun w' => sailOf_impl x y (-u) (-v) w')
  have a1 : toQ x y u v = tkN (u * y - v * x) := if_pos hv
  have a2 : toQ x y (-u) (-v) = tkN (-(u * y - v * x)) := by unfold toQ; rw [if_pos hv2, neg_cross]
  have s1 : soQ x y u v = slN (u * y - v * x) (u * x + v * y) := if_pos hv
  have s2 : soQ x y (-u) (-v) = slN (-(u * y - v * x)) (-(u * x + v * y)) := by unfold soQ; rw [if_pos hv2, neg_cross, neg_dot]
  have tk := tk_neg (u * y - v * x)
  have sl := sl_neg (u * y - v * x) (u * x + v * y)
  rw [← a1, ← a2] at tk
  rw [← s1, ← s2] at sl
  rw [hc2] at KT KS
  have SL := Lib.hid sl
  have TN1 : IntKind.i64.wrap (-u) = -u := IntWalk.i64_in _ (by omega)
  have TN2 : IntKind.i64.wrap (-v) = -v := IntWalk.i64_in _ (by omega)
  rw [hc]
  clear hc hc2 hv hv2 hn a1 a2 s1 s2 b1 b2 sl
  generalize toQ x y u v = A at *
  generalize toQ x y (-u) (-v) = B at *
  generalize soQ x y u v = C at *
  generalize soQ x y (-u) (-v) = D at *
  have TS : IntKind.i64.wrap (C + D) = 4 := by rw [SL.out]; rfl
  have TT : (C + D != 4) = false := by rw [SL.out]; rfl
  obtain ⟨W6, hW6⟩ : ∃ W6, W6 = w5.alloc (.cells #[.int .i64 (-u), .int .i64 (-v)] 26) := ⟨_, rfl⟩
  have X6 := Lib.hid (show Ext w W6 from hW6 ▸ X.out.alloc _)
  have hx6 : Ext w5 W6 := hW6 ▸ (Ext.refl w5).alloc _
  have g0 := hx6.cellOf p0
  have g1 := hx6.cellOf p1
  have r0 : W6.cell? ⟨w5.heap.size, 0, none⟩ = some (.int .i64 (-u)) := hW6 ▸ boxed 0 rfl rfl
  have r1 : W6.cell? ⟨w5.heap.size, 1, none⟩ = some (.int .i64 (-v)) := hW6 ▸ boxed 1 rfl rfl
  clear hx6
  go_upto_region 12 with fail
  rw [← hW6]
  clear hW6 p0 p1 q0 q1 X
  go_wp2_with fail
  refine (KT.out _).mono ?_
  rintro e w7 ⟨rfl, hy⟩
  replace g0 := hy.cellOf g0
  replace g1 := hy.cellOf g1
  replace r0 := hy.cellOf r0
  replace r1 := hy.cellOf r1
  replace X6 := Lib.hid (X6.out.trans hy)
  clear hy
  go_wp2_with fail
  refine (KS.out _).mono ?_
  rintro e w8 ⟨rfl, hy⟩
  rcases tk with ⟨rfl, rfl⟩ | ⟨rfl, rfl⟩ | ⟨rfl, rfl⟩
  all_goals
    go_wp2
    go_ret
    exact ⟨rfl, X6.out.trans hy⟩

end Go.Proofs.Ytkodmdfcppnfoaa.fnTack
