/- FnTurn: for every code, the turn of the points that are drawn is that of the reference model, it is turned round if two points are exchanged and stays if they are rotated, and distances are symmetric and 0 only between equal points. No condition. -/
import Derived.Test.YtfnbmpgnkcpkfaaDraw3
import Derived.Test.YtfnbmpgnkcpkfaaBig
import Derived.ChangeOld
import Derived.Below
import Derived.Lib.SmallJoins
namespace Go.Proofs.Ytfnbmpgnkcpkfaa.fnTurn
open Go.ChangeShapes Go.WideShapes Go.ChangeAt Go.RowKit
open Go.Proofs.Ytfnbmpgnkcpkfaa.Kit Go.Proofs.Ytfnbmpgnkcpkfaa.Num Go.Proofs.Ytfnbmpgnkcpkfaa.Draw Go.Proofs.Ytfnbmpgnkcpkfaa.Pts
set_option linter.unusedVariables false

theorem x1 (x y u v a b : Int) : (x - u) * (b - v) - (y - v) * (a - u) = -((u - x) * (b - y) - (v - y) * (a - x)) := by grind
theorem x2 (x y u v a b : Int) : (a - u) * (y - v) - (b - v) * (x - u) = ((u - x) * (b - y) - (v - y) * (a - x)) := by grind
theorem sgn_neg (n : Int) : sgn (-n) = -sgn n := by
  unfold sgn; rcases Int.lt_trichotomy n 0 with h | h | h
  · rw [if_pos h, if_neg (by omega), if_pos (by omega)]; rfl
  · subst h; rfl
  · rw [if_neg (by omega : ¬ n < 0), if_pos h, if_pos (by omega)]
theorem sgn_bd (n : Int) : -1 ≤ sgn n ∧ sgn n ≤ 1 := by
  unfold sgn; rcases Int.lt_trichotomy n 0 with h | h | h
  · rw [if_pos h]; decide
  · subst h; decide
  · rw [if_neg (by omega : ¬ n < 0), if_pos h]; decide
theorem sq0 (a b : Int) (h : a * a + b * b = 0) : a = 0 ∧ b = 0 := by
  have h1 : 0 ≤ a * a := by
    rcases Int.le_total 0 a with h | h
    · exact Int.mul_nonneg h h
    · exact Int.mul_nonneg_of_nonpos_of_nonpos h h
  have h2 : 0 ≤ b * b := by
    rcases Int.le_total 0 b with h | h
    · exact Int.mul_nonneg h h
    · exact Int.mul_nonneg_of_nonpos_of_nonpos h h
  have e1 : a * a = 0 := by omega
  have e2 : b * b = 0 := by omega
  exact ⟨by rcases Int.mul_eq_zero.1 e1 with h | h <;> exact h, by rcases Int.mul_eq_zero.1 e2 with h | h <;> exact h⟩

set_option maxRecDepth 100000 in
set_option maxHeartbeats 2000000 in
theorem walk (c : Option Addr) (len cap : Nat) (zs : List Int) (w : World) (hr : IsRow .u8 w c len cap zs) :
    Calls Try.prog 3 #[.slice c len cap] w fun e w' => e = .returned (.bool true) ∧ Ext w w' := by
  have HB := Lib.hid hr.bytes
  clear hr
  by_cases hl : 4096 < len
  · have g := show bigB len = true from decide_eq_true hl
    go_enter Try.func3, Try.ntmps3
    go_wp2_with (go_at_call 7; refine (big_any _ _ _ _).mono ?_; rintro e w' ⟨rfl, rfl⟩)
    go_ret
    exact ⟨rfl, Ext.refl _⟩
  · have g := show bigB len = false from decide_eq_false hl
    go_enter Try.func3, Try.ntmps3
    go_wp2_with fail
    refine (big_any _ _ _ _).mono ?_
    rintro e w' ⟨rfl, rfl⟩
    go_wp2_with fail
    refine (drawTurnOf_any c len cap _ HB.out (by omega)).mono ?_
    rintro e w1 ⟨x, y, u, v, a, b, rfl, hx⟩
    go_wp2_with fail
    obtain ⟨c1, c2, c3, c4, c5, c6⟩ := boxes3 w1 25 x y u v a b
    replace hx := ((hx.alloc (.cells #[.int .i64 x, .int .i64 y] 25)).alloc (.cells #[.int .i64 u, .int .i64 v] 25)).alloc (.cells #[.int .i64 a, .int .i64 b] 25)
    by_cases hv : ptB x y = true ∧ ptB u v = true ∧ ptB a b = true
    · have e1 : tuC x y u v a b = 0 := if_pos hv
      have e2 : tuC u v x y a b = 0 := if_pos ⟨hv.2.1, hv.1, hv.2.2⟩
      have e3 : tuC u v a b x y = 0 := if_pos ⟨hv.2.1, hv.2.2, hv.1⟩
      have e4 : sdC x y u v = 0 := if_pos ⟨hv.1, hv.2.1⟩
      have e5 : sdC u v x y = 0 := if_pos ⟨hv.2.1, hv.1⟩
      have q1 : tuQ x y u v a b = trn x y u v a b := if_pos hv
      have f2 : tuQ u v x y a b = -tuQ x y u v a b := by
        rw [q1, show tuQ u v x y a b = trn u v x y a b from if_pos ⟨hv.2.1, hv.1, hv.2.2⟩]; unfold trn; rw [x1 x y u v a b, sgn_neg]
      have f3 : tuQ u v a b x y = tuQ x y u v a b := by
        rw [q1, show tuQ u v a b x y = trn u v a b x y from if_pos ⟨hv.2.1, hv.2.2, hv.1⟩]; unfold trn; rw [x2 x y u v a b]
      have f4 : sdQ u v x y = sdQ x y u v := by
        rw [show sdQ u v x y = sqD u v x y from if_pos ⟨hv.2.1, hv.1⟩, show sdQ x y u v = sqD x y u v from if_pos ⟨hv.1, hv.2.1⟩, sqD_eq u v x y]; rfl
      have hb : -1 ≤ tuQ x y u v a b ∧ tuQ x y u v a b ≤ 1 := by rw [q1]; exact sgn_bd _
      have hd : sdQ x y u v = sqD x y u v := if_pos ⟨hv.1, hv.2.1⟩
      clear q1 hv
      by_cases hpq : x = u ∧ y = v
      · obtain ⟨rfl, rfl⟩ := hpq
        have hz : sdQ x y x y = 0 := by rw [hd]; unfold sqD; simp
        have z1 : tuQ x y x y a b = 0 := by omega
        have z2 : tuQ x y a b x y = 0 := by rw [f3]; exact z1
        clear hd f4 f2 f3 e5 e2 hb
        go_wp2_with (first | (go_at_call 9; refine (turnOf_impl _ _ _ _ _ _ _).mono ?_; rintro e w2 ⟨rfl, hy⟩; replace c1 := hy.cellOf c1; replace c2 := hy.cellOf c2; replace c3 := hy.cellOf c3; replace c4 := hy.cellOf c4; replace c5 := hy.cellOf c5; replace c6 := hy.cellOf c6; replace hx := hx.trans hy; clear hy) | (go_at_call 10; refine (turnOf_spec _ _ _ _ _ _ _).mono ?_; rintro e w2 ⟨rfl, hy⟩; replace c1 := hy.cellOf c1; replace c2 := hy.cellOf c2; replace c3 := hy.cellOf c3; replace c4 := hy.cellOf c4; replace c5 := hy.cellOf c5; replace c6 := hy.cellOf c6; replace hx := hx.trans hy; clear hy) | (go_at_call 11; refine (squareDistance_impl _ _ _ _ _).mono ?_; rintro e w2 ⟨rfl, hy⟩; replace c1 := hy.cellOf c1; replace c2 := hy.cellOf c2; replace c3 := hy.cellOf c3; replace c4 := hy.cellOf c4; replace c5 := hy.cellOf c5; replace c6 := hy.cellOf c6; replace hx := hx.trans hy; clear hy))
        go_ret
        exact ⟨rfl, hx⟩
      · have hz : (sdQ x y u v == 0) = false := beq_eq_false_iff_ne.2 (fun h0 => hpq (by rw [hd] at h0; have := sq0 _ _ h0; omega))
        clear hd
        by_cases hxu : x = u
        · have hyv : (y == v) = false := beq_eq_false_iff_ne.2 (fun h0 => hpq ⟨hxu, h0⟩)
          have hxu' : (x == u) = true := beq_iff_eq.2 hxu
          clear hpq hxu
          go_wp2_with (first | (go_at_call 9; refine (turnOf_impl _ _ _ _ _ _ _).mono ?_; rintro e w2 ⟨rfl, hy⟩; replace c1 := hy.cellOf c1; replace c2 := hy.cellOf c2; replace c3 := hy.cellOf c3; replace c4 := hy.cellOf c4; replace c5 := hy.cellOf c5; replace c6 := hy.cellOf c6; replace hx := hx.trans hy; clear hy) | (go_at_call 10; refine (turnOf_spec _ _ _ _ _ _ _).mono ?_; rintro e w2 ⟨rfl, hy⟩; replace c1 := hy.cellOf c1; replace c2 := hy.cellOf c2; replace c3 := hy.cellOf c3; replace c4 := hy.cellOf c4; replace c5 := hy.cellOf c5; replace c6 := hy.cellOf c6; replace hx := hx.trans hy; clear hy) | (go_at_call 11; refine (squareDistance_impl _ _ _ _ _).mono ?_; rintro e w2 ⟨rfl, hy⟩; replace c1 := hy.cellOf c1; replace c2 := hy.cellOf c2; replace c3 := hy.cellOf c3; replace c4 := hy.cellOf c4; replace c5 := hy.cellOf c5; replace c6 := hy.cellOf c6; replace hx := hx.trans hy; clear hy))
          go_ret
          exact ⟨rfl, hx⟩
        · have hxu' : (x == u) = false := beq_eq_false_iff_ne.2 hxu
          clear hpq hxu
          go_wp2_with (first | (go_at_call 9; refine (turnOf_impl _ _ _ _ _ _ _).mono ?_; rintro e w2 ⟨rfl, hy⟩; replace c1 := hy.cellOf c1; replace c2 := hy.cellOf c2; replace c3 := hy.cellOf c3; replace c4 := hy.cellOf c4; replace c5 := hy.cellOf c5; replace c6 := hy.cellOf c6; replace hx := hx.trans hy; clear hy) | (go_at_call 10; refine (turnOf_spec _ _ _ _ _ _ _).mono ?_; rintro e w2 ⟨rfl, hy⟩; replace c1 := hy.cellOf c1; replace c2 := hy.cellOf c2; replace c3 := hy.cellOf c3; replace c4 := hy.cellOf c4; replace c5 := hy.cellOf c5; replace c6 := hy.cellOf c6; replace hx := hx.trans hy; clear hy) | (go_at_call 11; refine (squareDistance_impl _ _ _ _ _).mono ?_; rintro e w2 ⟨rfl, hy⟩; replace c1 := hy.cellOf c1; replace c2 := hy.cellOf c2; replace c3 := hy.cellOf c3; replace c4 := hy.cellOf c4; replace c5 := hy.cellOf c5; replace c6 := hy.cellOf c6; replace hx := hx.trans hy; clear hy))
          go_ret
          exact ⟨rfl, hx⟩
    · have e1 : tuC x y u v a b = 1 := if_neg hv
      clear hv
      go_wp2_with (first | (go_at_call 9; refine (turnOf_impl _ _ _ _ _ _ _).mono ?_; rintro e w2 ⟨rfl, hy⟩; replace c1 := hy.cellOf c1; replace c2 := hy.cellOf c2; replace c3 := hy.cellOf c3; replace c4 := hy.cellOf c4; replace c5 := hy.cellOf c5; replace c6 := hy.cellOf c6; replace hx := hx.trans hy; clear hy) | (go_at_call 10; refine (turnOf_spec _ _ _ _ _ _ _).mono ?_; rintro e w2 ⟨rfl, hy⟩; replace c1 := hy.cellOf c1; replace c2 := hy.cellOf c2; replace c3 := hy.cellOf c3; replace c4 := hy.cellOf c4; replace c5 := hy.cellOf c5; replace c6 := hy.cellOf c6; replace hx := hx.trans hy; clear hy) | (go_at_call 11; refine (squareDistance_impl _ _ _ _ _).mono ?_; rintro e w2 ⟨rfl, hy⟩; replace c1 := hy.cellOf c1; replace c2 := hy.cellOf c2; replace c3 := hy.cellOf c3; replace c4 := hy.cellOf c4; replace c5 := hy.cellOf c5; replace c6 := hy.cellOf c6; replace hx := hx.trans hy; clear hy))
      go_ret
      exact ⟨rfl, hx⟩

theorem own : ownKnob Try.prog.godebug = none := by kernel_rfl
theorem laidOut : laidOutB Try.prog = true := by kernel_rfl

set_option maxRecDepth 100000 in
theorem lifted (os : Os) (started : os.Started) (H : Type) (enc : TypeId × Value → H) :
    ReturnsInHanded {} Try.checked os 3 .any (Rows.fnTurnSpec.pre6 enc Try.prog Try.f3 Rows.fnTurnRow.domain false) (Rows.fnTurnSpec.post enc Try.prog Try.f3 false true false false) := by
  refine returnsInHanded_of_change (C := Try.checked) own started (by kernel_rfl) Try.func3
    (ChangeSpec.witness6 (enc := enc) (C := Try.checked) false ⟨#[], #[.slice none 0 0], []⟩ 8 (by kernel_rfl) (by kernel_rfl) (by kernel_rfl) (by kernel_rfl)) ?_
  intro W base args ds gs before hval0 hW hcnd _
  have hval : ∀ (j : Nat) t v, Try.f3.params[j]? = some t → args[j]? = some v → Value.okWide Try.prog W .any base t v := hval0
  have hW' := hW
  obtain ⟨p, q, hA0, hV, rfl, hfz, hnd⟩ := hW
  have hA : DataW.TrodAll enc Try.prog W 0 (fun _ => true) true Try.f3.params.toList args.toList ds p := hA0
  rw [Try.params3] at hA hval
  obtain ⟨v0, vs0, d0, ds0, p0, q0, hargs, rfl, rfl, h0, r0⟩ := trodAll_cons hA
  obtain ⟨rfl, rfl, rfl⟩ := trodAll_nil r0
  obtain rfl : args = #[v0] := by cases args; simp_all
  obtain ⟨rfl, rfl⟩ := trodVars_none hV
  have k0 := h0
  have lt0 : ∀ x ∈ p0, x.block < W.heap.size := by obtain ⟨m, hm⟩ := k0; exact DataW.trod_lt m _ _ _ hm
  obtain ⟨a0, len0, cap0, rfl⟩ := okWide_slice Try.underlying22 (hval 0 22 v0 rfl rfl)
  obtain ⟨z0, w0⟩ : ∃ zs, IsRow .u8 W a0 len0 cap0 zs := by
    obtain ⟨fuel, hf⟩ := h0
    rcases open_ints Try.underlying22 Try.underlying5 (by kernel_rfl) hf with ⟨hcs, _⟩ | ⟨x, l, c, zs, hcs, _, hl, hm, hz, _, hcell, hwz⟩
    · simp [Value.cells] at hcs
      obtain ⟨rfl, rfl, rfl⟩ := hcs
      exact ⟨[], .inl ⟨rfl, rfl, rfl, rfl⟩⟩
    · simp [Value.cells] at hcs
      obtain ⟨rfl, rfl, rfl⟩ := hcs
      exact ⟨zs, .inr ⟨_, rfl, hl, hm, by simpa using hz, hcell, hwz⟩⟩
  clear hA0 hval0
  refine (walk a0 len0 cap0 z0 W w0).mono fun e W' ⟨he, hx⟩ => ?_
  have bel := hx.below
  subst he
  exact ⟨_, rfl, _, _, _, [], _, [], hW', trodAll_mk1 (shut_bool Try.underlying4 _), (trodAll_cons_mk (Below.trod laidOut (by kernel_rfl) (of_decide_eq_true (by kernel_rfl)) k0 bel lt0) trodAll_mk0), rfl, bel.frame _, fun h => by cases h⟩

theorem proved : Rows.FnTurnSaid :=
  OpenClaim.holds_of_wide 3 Try.f3 rfl rfl rfl rfl rfl rfl rfl ⟨rfl, rfl, rfl, rfl, rfl⟩ rfl rfl rfl rfl rfl (by kernel_rfl) Try.func3 (by kernel_rfl)
    (of_decide_eq_true (by kernel_rfl)) (by unfold Func.isWrapper; first | (rw [if_pos (by decide +kernel)]; kernel_rfl) | (rw [if_neg (by decide +kernel)]; exact ⟨rfl, rfl⟩))
    (fun os started H enc _ => lifted os started H enc)

end Go.Proofs.Ytfnbmpgnkcpkfaa.fnTurn
