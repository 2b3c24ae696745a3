/- FnPlace: for every code, the answer for the segment and the place that are drawn agrees with the reference model, the places 0 and 1 are the ends, the point lies between the ends, and the nearest place is one. No condition. -/
import Derived.Test.YtookaodccmlkoaaDrawPl
import Derived.Test.YtookaodccmlkoaaBig
import Derived.Test.YtookaodccmlkoaaPat
import Derived.Test.YtookaodccmlkoaaNear2
import Derived.ChangeOld
import Derived.Below
import Derived.Lib.SmallJoins
namespace Go.Proofs.Ytookaodccmlkoaa.fnPlace
open Go.ChangeShapes Go.WideShapes Go.ChangeAt Go.RowKit
open Go.Proofs.Ytookaodccmlkoaa.Kit Go.Proofs.Ytookaodccmlkoaa.Num Go.Proofs.Ytookaodccmlkoaa.Draw Go.Proofs.Ytookaodccmlkoaa.Pts Go.Proofs.Ytookaodccmlkoaa.Seg Go.Proofs.Ytookaodccmlkoaa.Gcd Go.Proofs.Ytookaodccmlkoaa.Crs Go.Proofs.Ytookaodccmlkoaa.Cmp Go.Proofs.Ytookaodccmlkoaa.Div
set_option linter.unusedVariables false
set_option linter.unusedSimpArgs false

theorem gcd_dvd_left' (a b : Int) (ha : 0 ≤ a) : ∃ k, a = gc a b * k := by
  unfold gc
  obtain ⟨k, hk⟩ := Nat.gcd_dvd_left a.toNat b.toNat
  exact ⟨k, by have : ((a.toNat : Nat) : Int) = ((a.toNat.gcd b.toNat * k : Nat) : Int) := congrArg _ hk; rw [Int.natCast_mul] at this; omega⟩
theorem gcd_dvd_right' (a b : Int) (hb : 0 ≤ b) : ∃ k, b = gc a b * k := by
  unfold gc
  obtain ⟨k, hk⟩ := Nat.gcd_dvd_right a.toNat b.toNat
  exact ⟨k, by have : ((b.toNat : Nat) : Int) = ((a.toNat.gcd b.toNat * k : Nat) : Int) := congrArg _ hk; rw [Int.natCast_mul] at this; omega⟩
theorem terms {A C : Int} (h0 : 0 ≤ A) (h1 : A ≤ C) (h2 : 1 ≤ C) : 0 ≤ A / gc A C ∧ A / gc A C ≤ C / gc A C ∧ 1 ≤ C / gc A C := by
  have hg := gc_pos (a := A) (b := C) h2
  obtain ⟨k, hk⟩ := gcd_dvd_left' A C h0
  obtain ⟨l, hl⟩ := gcd_dvd_right' A C (by omega)
  have e : A / gc A C = k := by
    rw [Int.ediv_eq_iff_eq_mul_right (by omega) ⟨k, hk⟩]; exact hk
  have e2 : C / gc A C = l := by
    rw [Int.ediv_eq_iff_eq_mul_right (by omega) ⟨l, hl⟩]; exact hl
  rw [e, e2]
  clear e e2
  generalize gc A C = G at *
  refine ⟨?_, ?_, ?_⟩
  · rcases Int.lt_or_le k 0 with h | h
    · have := Int.mul_neg_of_pos_of_neg (show (0 : Int) < G by omega) h
      omega
    · exact h
  · rcases Int.lt_or_le l k with h | h
    · have := Int.mul_lt_mul_of_pos_left h (show (0 : Int) < G by omega)
      omega
    · exact h
  · rcases Int.lt_or_le l 1 with h | h
    · have := Int.mul_nonpos_of_nonneg_of_nonpos (show (0 : Int) ≤ G by omega) (show l ≤ 0 by omega)
      omega
    · exact h
theorem near_ok {a b c d p q : Int} (ha : Co a) (hb : Co b) (hc : Co c) (hd : Co d) (hne : ¬ (a = c ∧ b = d)) :
    0 ≤ neN a b c d p q ∧ neN a b c d p q ≤ neD a b c d p q ∧ 1 ≤ neD a b c d p q := by
  obtain ⟨m1, _⟩ := sqL_bd ha hb hc hd hne
  unfold neN neD
  have h0 : 0 ≤ neK a b c d p q ∧ neK a b c d p q ≤ sqL a b c d := by
    unfold neK cl
    split
    · omega
    · split <;> omega
  exact terms h0.1 h0.2 m1
def btw (x a c : Int) : Bool := decide (min a c ≤ x) && decide (x ≤ max a c)
theorem part_btw {x y a c : Int} (k1 : 0 ≤ x) (k2 : x ≤ y) (d1 : 1 ≤ y) : min a c ≤ a + pa x y (c - a) ∧ a + pa x y (c - a) ≤ max a c := by
  unfold pa
  rcases Int.lt_or_le c a with h | h
  · have h1 : (c - a) * y ≤ (c - a) * x := by
      have := Int.mul_le_mul_of_nonneg_left k2 (show 0 ≤ a - c by omega)
      have e1 : (a - c) * x = -((c - a) * x) := by grind
      have e2 : (a - c) * y = -((c - a) * y) := by grind
      omega
    have h2 : (c - a) * x ≤ 0 := Int.mul_nonpos_of_nonpos_of_nonneg (by omega) k1
    have u1 : c - a ≤ (c - a) * x / y := by
      rw [Int.le_ediv_iff_mul_le (by omega)]; exact h1
    have u2 : (c - a) * x / y ≤ 0 := Int.ediv_nonpos_of_nonpos_of_neg h2 (by omega)
    omega
  · have h1 : (c - a) * x ≤ (c - a) * y := Int.mul_le_mul_of_nonneg_left k2 (by omega)
    have h2 : 0 ≤ (c - a) * x := Int.mul_nonneg (by omega) k1
    have u1 : (c - a) * x / y ≤ c - a := by
      have := Int.ediv_le_ediv (show 0 < y by omega) h1
      rw [Int.mul_ediv_cancel _ (by omega)] at this; exact this
    have u2 : 0 ≤ (c - a) * x / y := Int.ediv_nonneg h2 (by omega)
    omega

set_option maxHeartbeats 1000000 in
theorem between_any (x a c : Int) (w : World) (h : min a c ≤ x ∧ x ≤ max a c) : Calls Try.prog 30 #[.int .i64 x, .int .i64 a, .int .i64 c] w fun e w' => e = .returned (.bool true) ∧ w' = w := by
  have h1 : decide ((if c < a then c else a) ≤ x) = true := by apply decide_eq_true; split <;> omega
  have h2 : decide (x ≤ if a < c then c else a) = true := by apply decide_eq_true; split <;> omega
  go_enter Try.func30, Try.ntmps30
  go_wp2
  all_goals
    go_ret
    simp_all

set_option maxRecDepth 100000 in
set_option maxHeartbeats 4000000 in
theorem walk (c0 : Option Addr) (len cap : Nat) (zs : List Int) (w : World) (hr : IsRow .u8 w c0 len cap zs) :
    Calls Try.prog 7 #[.slice c0 len cap] w fun e w' => e = .returned (.bool true) ∧ Ext w w' := by
  have HB := Lib.hid hr.bytes
  clear hr
  by_cases hl : 4096 < len
  · have g := show bigB len = true from decide_eq_true hl
    go_enter Try.func7, Try.ntmps7
    go_wp2_with (go_at_call 9; refine (big_any _ _ _ _).mono ?_; rintro e w' ⟨rfl, rfl⟩)
    go_ret
    exact ⟨rfl, Ext.refl _⟩
  have g := show bigB len = false from decide_eq_false hl
  go_enter Try.func7, Try.ntmps7
  go_wp2_with fail
  refine (big_any _ _ _ _).mono ?_
  rintro e w' ⟨rfl, rfl⟩
  go_wp2_with fail
  refine (drawPointAt_any c0 len cap _ HB.out (by omega)).mono ?_
  rintro e w1 ⟨a, b, c, d, p, q, rfl, hx⟩
  have BX := Lib.hid ((Box.new4 (w := w1) (n := w1.heap.size) (x := .int .i64 a) (y := .int .i64 b) (z := .int .i64 c) (u := .int .i64 d) (t := 59) rfl).alloc (.cells #[.int .i64 p, .int .i64 q] 37))
  have BR := Lib.hid (Box.new2 (w := w1.alloc (.cells #[.int .i64 a, .int .i64 b, .int .i64 c, .int .i64 d] 59)) (n := w1.heap.size + 1) (x := .int .i64 p) (y := .int .i64 q) (t := 37) (by simp))
  replace hx := Lib.hid ((hx.alloc (.cells #[.int .i64 a, .int .i64 b, .int .i64 c, .int .i64 d] 59)).alloc (.cells #[.int .i64 p, .int .i64 q] 37))
  clear HB g hl
  have KP := Lib.hid (pointAt_impl a b c d p q)
  have KS := Lib.hid (pointAt_spec a b c d p q)
  obtain ⟨X, hX⟩ : ∃ X, X = paX a b c d p q := ⟨_, rfl⟩
  obtain ⟨Y, hY⟩ : ∃ Y, Y = paY a b c d p q := ⟨_, rfl⟩
  obtain ⟨ck, hck⟩ : ∃ ck, ck = paC a b c d p q := ⟨_, rfl⟩
  rw [← hX, ← hY, ← hck] at KP KS
  replace hX := Lib.hid hX
  replace hY := Lib.hid hY
  replace hck := Lib.hid hck
  obtain ⟨⟨i0, i1, i2, i3⟩, _⟩ := BX.out.four
  obtain ⟨⟨j0, j1⟩, _⟩ := BR.out.two
  go_wp2_with fail
  refine (KP.out _).mono ?_
  rintro e w2 ⟨rfl, hy⟩
  have P1 := Lib.hid (Box.new2 (w := w2) (n := w2.heap.size) (x := .int .i64 X) (y := .int .i64 Y) (t := 25) rfl)
  replace hy := hy.alloc (.cells #[.int .i64 X, .int .i64 Y] 25)
  replace BX := Lib.hid (BX.out.ext hy)
  replace BR := Lib.hid (BR.out.ext hy)
  replace hx := Lib.hid (hx.out.trans hy)
  clear hy i0 i1 i2 i3 j0 j1
  obtain ⟨⟨i0, i1, i2, i3⟩, _⟩ := BX.out.four
  obtain ⟨⟨j0, j1⟩, _⟩ := BR.out.two
  go_wp2_with fail
  refine (KS.out _).mono ?_
  rintro e w3 ⟨rfl, hy⟩
  have P2 := Lib.hid (Box.new2 (w := w3) (n := w3.heap.size) (x := .int .i64 X) (y := .int .i64 Y) (t := 25) rfl)
  replace hy := hy.alloc (.cells #[.int .i64 X, .int .i64 Y] 25)
  replace BX := Lib.hid (BX.out.ext hy)
  replace P1 := Lib.hid (P1.out.ext hy)
  replace hx := Lib.hid (hx.out.trans hy)
  clear hy i0 i1 i2 i3 j0 j1 BR KP KS
  obtain ⟨⟨i0, i1, i2, i3⟩, _⟩ := BX.out.four
  obtain ⟨⟨p0, p1⟩, _⟩ := P1.out.two
  obtain ⟨⟨q0, q1⟩, _⟩ := P2.out.two
  by_cases hs : sgB a b c d = true ∧ raB p q 0 = true
  rotate_left
  · have hk : ¬ ck = 0 := by
      rw [hck.out]; unfold paC
      split
      · rename_i h1
        split
        · rename_i h2; exact absurd ⟨h1, h2⟩ hs
        · omega
      · omega
    have hk1 : (ck == 0) = false := beq_eq_false_iff_ne.2 hk
    clear hX hY hck hs hk
    go_wp2
    go_ret
    exact ⟨rfl, hx.out⟩
  obtain ⟨hs1, hs2⟩ := hs
  obtain ⟨⟨ha, hb, hc, hd⟩, hne⟩ := sgB_yes hs1
  obtain ⟨d1, d2, k1, k2⟩ := raB_yes hs2
  have ek : ck = 0 := by rw [hck.out]; unfold paC; rw [if_pos hs1, if_pos hs2]
  have eX : X = a + pa p q (c - a) := by rw [hX.out]; unfold paX; rw [if_pos ⟨hs1, hs2⟩]
  have eY : Y = b + pa p q (d - b) := by rw [hY.out]; unfold paY; rw [if_pos ⟨hs1, hs2⟩]
  have bX : min a c ≤ X ∧ X ≤ max a c := by rw [eX]; exact part_btw (by omega) k2 d1
  have bY : min b d ≤ Y ∧ Y ≤ max b d := by rw [eY]; exact part_btw (by omega) k2 d1
  have hp : ptB X Y = true := by
    have u1 : -1000000 ≤ X ∧ X ≤ 1000000 := by
      clear eX
      unfold Co at ha hc
      rcases Int.lt_or_le c a with h | h <;> omega
    have u2 : -1000000 ≤ Y ∧ Y ≤ 1000000 := by
      clear eY
      unfold Co at hb hd
      rcases Int.lt_or_le d b with h | h <;> omega
    unfold ptB coB
    rw [inB_yes u1.1 u1.2, inB_yes u2.1 u2.2]
    rfl
  have r0 : raB 0 1 0 = true := rfl
  have r1 : raB 1 1 0 = true := rfl
  have z0 : paX a b c d 0 1 = a := by unfold paX pa; rw [if_pos ⟨hs1, r0⟩]; simp
  have z1 : paY a b c d 0 1 = b := by unfold paY pa; rw [if_pos ⟨hs1, r0⟩]; simp
  have z2 : paC a b c d 0 1 = 0 := by unfold paC; rw [if_pos hs1, if_pos r0]
  have o0 : paX a b c d 1 1 = c := by unfold paX pa; rw [if_pos ⟨hs1, r1⟩]; simp; omega
  have o1 : paY a b c d 1 1 = d := by unfold paY pa; rw [if_pos ⟨hs1, r1⟩]; simp; omega
  have o2 : paC a b c d 1 1 = 0 := by unfold paC; rw [if_pos hs1, if_pos r1]
  have n0 : npN a b c d X Y = neN a b c d X Y := if_pos ⟨hs1, hp⟩
  have n1 : npD a b c d X Y = neD a b c d X Y := if_pos ⟨hs1, hp⟩
  have n2 : npC a b c d X Y = 0 := if_pos ⟨hs1, hp⟩
  obtain ⟨t0, t1, t2⟩ := near_ok (p := X) (q := Y) ha hb hc hd hne
  have K0 := Lib.hid (pointAt_impl a b c d 0 1)
  have K1 := Lib.hid (pointAt_impl a b c d 1 1)
  have K2 := Lib.hid (nearestPlace_impl a b c d X Y)
  rw [z0, z1, z2] at K0
  rw [o0, o1, o2] at K1
  rw [n0, n1, n2] at K2
  obtain ⟨N, hN⟩ : ∃ N, N = neN a b c d X Y := ⟨_, rfl⟩
  obtain ⟨D, hD⟩ : ∃ D, D = neD a b c d X Y := ⟨_, rfl⟩
  rw [← hN, ← hD] at K2
  rw [← hN] at t0 t1
  rw [← hD] at t1 t2
  have T0 : decide (1 ≤ D) = true := decide_eq_true t2
  have T1 : decide (0 ≤ N) = true := decide_eq_true t0
  have T2 : decide (N ≤ D) = true := decide_eq_true t1
  have KX := Lib.hid (fun w' => between_any X a c w' bX)
  have KY := Lib.hid (fun w' => between_any Y b d w' bY)
  clear hX hY hck hs1 hs2 ha hb hc hd hne d1 d2 k1 k2 eX eY bX bY hp r0 r1 z0 z1 z2 o0 o1 o2 n0 n1 n2 hN hD t0 t1 t2
  subst ek
  go_wp2_with fail
  refine (K0.out _).mono ?_
  rintro e w4 ⟨rfl, hy⟩
  have P3 := Lib.hid (Box.new2 (w := w4) (n := w4.heap.size) (x := .int .i64 a) (y := .int .i64 b) (t := 25) rfl)
  replace hy := hy.alloc (.cells #[.int .i64 a, .int .i64 b] 25)
  replace BX := Lib.hid (BX.out.ext hy)
  replace P1 := Lib.hid (P1.out.ext hy)
  replace hx := Lib.hid (hx.out.trans hy)
  clear hy i0 i1 i2 i3 p0 p1 q0 q1 P2 K0
  obtain ⟨⟨i0, i1, i2, i3⟩, _⟩ := BX.out.four
  go_wp2_with fail
  refine (K1.out _).mono ?_
  rintro e w5 ⟨rfl, hy⟩
  have P4 := Lib.hid (Box.new2 (w := w5) (n := w5.heap.size) (x := .int .i64 c) (y := .int .i64 d) (t := 25) rfl)
  replace hy := hy.alloc (.cells #[.int .i64 c, .int .i64 d] 25)
  replace BX := Lib.hid (BX.out.ext hy)
  replace P1 := Lib.hid (P1.out.ext hy)
  replace P3 := Lib.hid (P3.out.ext hy)
  replace hx := Lib.hid (hx.out.trans hy)
  clear hy i0 i1 i2 i3 K1
  obtain ⟨⟨i0, i1, i2, i3⟩, _⟩ := BX.out.four
  obtain ⟨⟨p0, p1⟩, _⟩ := P1.out.two
  go_wp2_with fail
  refine (K2.out _).mono ?_
  rintro e w6 ⟨rfl, hy⟩
  have P5 := Lib.hid (Box.new2 (w := w6) (n := w6.heap.size) (x := .int .i64 N) (y := .int .i64 D) (t := 37) rfl)
  replace hy := hy.alloc (.cells #[.int .i64 N, .int .i64 D] 37)
  replace BX := Lib.hid (BX.out.ext hy)
  replace P1 := Lib.hid (P1.out.ext hy)
  replace P3 := Lib.hid (P3.out.ext hy)
  replace P4 := Lib.hid (P4.out.ext hy)
  replace hx := Lib.hid (hx.out.trans hy)
  clear hy i0 i1 i2 i3 p0 p1 K2
  obtain ⟨⟨i0, i1, i2, i3⟩, _⟩ := BX.out.four
  obtain ⟨⟨p0, p1⟩, _⟩ := P1.out.two
  obtain ⟨⟨u0, u1⟩, _⟩ := P3.out.two
  obtain ⟨⟨v0, v1⟩, _⟩ := P4.out.two
  obtain ⟨⟨x0, x1⟩, _⟩ := P5.out.two
  go_wp2_with fail
  refine (KX.out _).mono ?_
  rintro e w7 ⟨rfl, rfl⟩
  go_wp2_with fail
  refine (KY.out _).mono ?_
  rintro e w8 ⟨rfl, rfl⟩
  go_wp2
  go_ret
  exact ⟨rfl, hx.out⟩

theorem own : ownKnob Try.prog.godebug = none := by kernel_rfl
theorem laidOut : laidOutB Try.prog = true := by kernel_rfl

set_option maxRecDepth 100000 in
theorem lifted (os : Os) (started : os.Started) (H : Type) (enc : TypeId × Value → H) :
    ReturnsInHanded {} Try.checked os 7 .any (Rows.fnPlaceSpec.pre6 enc Try.prog Try.f7 Rows.fnPlaceRow.domain false) (Rows.fnPlaceSpec.post enc Try.prog Try.f7 false true false false) := by
  refine returnsInHanded_of_change (C := Try.checked) own started (by kernel_rfl) Try.func7
    (ChangeSpec.witness6 (enc := enc) (C := Try.checked) false ⟨#[], #[.slice none 0 0], []⟩ 8 (by kernel_rfl) (by kernel_rfl) (by kernel_rfl) (by kernel_rfl)) ?_
  intro W base args ds gs before hval0 hW hcnd _
  have hval : ∀ (j : Nat) t v, Try.f7.params[j]? = some t → args[j]? = some v → Value.okWide Try.prog W .any base t v := hval0
  have hW' := hW
  obtain ⟨p, q, hA0, hV, rfl, hfz, hnd⟩ := hW
  have hA : DataW.TrodAll enc Try.prog W 0 (fun _ => true) true Try.f7.params.toList args.toList ds p := hA0
  rw [Try.params7] at hA hval
  obtain ⟨v0, vs0, d0, ds0, p0, q0, hargs, rfl, rfl, h0, r0⟩ := trodAll_cons hA
  obtain ⟨rfl, rfl, rfl⟩ := trodAll_nil r0
  obtain rfl : args = #[v0] := by cases args; simp_all
  obtain ⟨rfl, rfl⟩ := trodVars_none hV
  have k0 := h0
  have lt0 : ∀ x ∈ p0, x.block < W.heap.size := by obtain ⟨m, hm⟩ := k0; exact DataW.trod_lt m _ _ _ hm
  obtain ⟨a0, len0, cap0, rfl⟩ := okWide_slice Try.underlying22 (hval 0 22 v0 rfl rfl)
  obtain ⟨z0, w0⟩ : ∃ zs, IsRow .u8 W a0 len0 cap0 zs := by
    obtain ⟨fuel, hf⟩ := h0
    rcases open_ints Try.underlying22 Try.underlying5 (by kernel_rfl) hf with ⟨hcs, _⟩ | ⟨x, l, c, zs, hcs, _, hl, hm, hz, _, hcell, hwz⟩
    · simp [Value.cells] at hcs
      obtain ⟨rfl, rfl, rfl⟩ := hcs
      exact ⟨[], .inl ⟨rfl, rfl, rfl, rfl⟩⟩
    · simp [Value.cells] at hcs
      obtain ⟨rfl, rfl, rfl⟩ := hcs
      exact ⟨zs, .inr ⟨_, rfl, hl, hm, by simpa using hz, hcell, hwz⟩⟩
  clear hA0 hval0
  refine (walk a0 len0 cap0 z0 W w0).mono fun e W' ⟨he, hx⟩ => ?_
  have bel := hx.below
  subst he
  exact ⟨_, rfl, _, _, _, [], _, [], hW', trodAll_mk1 (shut_bool Try.underlying4 _), (trodAll_cons_mk (Below.trod laidOut (by kernel_rfl) (of_decide_eq_true (by kernel_rfl)) k0 bel lt0) trodAll_mk0), rfl, bel.frame _, fun h => by cases h⟩

theorem proved : Rows.FnPlaceSaid :=
  OpenClaim.holds_of_wide 7 Try.f7 rfl rfl rfl rfl rfl rfl rfl ⟨rfl, rfl, rfl, rfl, rfl⟩ rfl rfl rfl rfl rfl (by kernel_rfl) Try.func7 (by kernel_rfl)
    (of_decide_eq_true (by kernel_rfl)) (by unfold Func.isWrapper; first | (rw [if_pos (by decide +kernel)]; kernel_rfl) | (rw [if_neg (by decide +kernel)]; exact ⟨rfl, rfl⟩))
    (fun os started H enc _ => lifted os started H enc)

end Go.Proofs.Ytookaodccmlkoaa.fnPlace
