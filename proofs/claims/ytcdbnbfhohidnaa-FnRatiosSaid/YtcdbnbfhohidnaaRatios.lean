/- FnRatios: for every code, comparing the two ratios that are drawn agrees with the reference model, is turned round if they are exchanged, and agrees with the products for small ones. No condition. -/
import Derived.Test.YtcdbnbfhohidnaaDrawR
import Derived.Test.YtcdbnbfhohidnaaBig
import Derived.Test.YtcdbnbfhohidnaaRat2
import Derived.ChangeOld
import Derived.Below
import Derived.Lib.SmallJoins
namespace Go.Proofs.Ytcdbnbfhohidnaa.fnRatios
open Go.ChangeShapes Go.WideShapes Go.ChangeAt Go.RowKit
open Go.Proofs.Ytcdbnbfhohidnaa.Kit Go.Proofs.Ytcdbnbfhohidnaa.Num Go.Proofs.Ytcdbnbfhohidnaa.Draw Go.Proofs.Ytcdbnbfhohidnaa.Pts Go.Proofs.Ytcdbnbfhohidnaa.Cmp
set_option linter.unusedVariables false
set_option linter.unusedSimpArgs false

theorem pr_bd {n d e : Int} (h1 : -d ≤ n) (h2 : n ≤ d) (hd : d ≤ 1000000) (he1 : 1 ≤ e) (he2 : e ≤ 1000000) : -1000000000000 ≤ n * e ∧ n * e ≤ 1000000000000 := by
  have := mul_bd (x := n) (y := e) 1000000 1000000 (by omega) (by omega)
  simp only [Int.reduceMul, Int.reduceNeg] at this
  exact this

set_option maxRecDepth 100000 in
set_option maxHeartbeats 2000000 in
theorem walk (c : Option Addr) (len cap : Nat) (zs : List Int) (w : World) (hr : IsRow .u8 w c len cap zs) :
    Calls Try.prog 6 #[.slice c len cap] w fun e w' => e = .returned (.bool true) ∧ Ext w w' := by
  have HB := Lib.hid hr.bytes
  clear hr
  by_cases hl : 4096 < len
  · have g := show bigB len = true from decide_eq_true hl
    go_enter Try.func6, Try.ntmps6
    go_wp2_with (go_at_call 15; refine (big_any _ _ _ _).mono ?_; rintro e w' ⟨rfl, rfl⟩)
    go_ret
    exact ⟨rfl, Ext.refl _⟩
  · have g := show bigB len = false from decide_eq_false hl
    go_enter Try.func6, Try.ntmps6
    go_wp2_with fail
    refine (big_any _ _ _ _).mono ?_
    rintro e w' ⟨rfl, rfl⟩
    go_wp2_with fail
    refine (drawCompareRatios_any c len cap _ HB.out (by omega)).mono ?_
    rintro e w1 ⟨x, y, u, v, rfl, hx⟩
    obtain ⟨c1, c2, c3, c4⟩ := boxes2 w1 33 x y u v
    replace hx := (hx.alloc (.cells #[.int .i64 x, .int .i64 y] 33)).alloc (.cells #[.int .i64 u, .int .i64 v] 33)
    clear HB g hl
    by_cases hv : raB x y (-1) = true ∧ raB u v (-1) = true
    · have e1 : crC x y u v = 0 := if_pos hv
      have e2 : crC u v x y = 0 := if_pos ⟨hv.2, hv.1⟩
      have q1 : crQ x y u v = cmpZ (x * v) (u * y) := if_pos hv
      have q2 : crQ u v x y = -cmpZ (x * v) (u * y) := by
        rw [show crQ u v x y = cmpZ (u * y) (x * v) from if_pos ⟨hv.2, hv.1⟩, cmpZ_anti]
      obtain ⟨b1, b2⟩ := cmpZ_bd (x * v) (u * y)
      obtain ⟨y1, y2, x1, x2⟩ := raB_yes hv.1
      obtain ⟨v1, v2, u1, u2⟩ := raB_yes hv.2
      clear hv
      by_cases k1 : 1000000 < y
      · go_wp2_with (first | (go_at_call 31; refine (compareRatios_impl _ _ _ _ _).mono ?_; rintro e w2 ⟨rfl, hy⟩; replace c1 := hy.cellOf c1; replace c2 := hy.cellOf c2; replace c3 := hy.cellOf c3; replace c4 := hy.cellOf c4; replace hx := hx.trans hy; clear hy) | (go_at_call 32; refine (compareRatios_spec _ _ _ _ _).mono ?_; rintro e w2 ⟨rfl, hy⟩; replace c1 := hy.cellOf c1; replace c2 := hy.cellOf c2; replace c3 := hy.cellOf c3; replace c4 := hy.cellOf c4; replace hx := hx.trans hy; clear hy))
        go_ret
        exact ⟨rfl, hx⟩
      by_cases k2 : 1000000 < v
      · go_wp2_with (first | (go_at_call 31; refine (compareRatios_impl _ _ _ _ _).mono ?_; rintro e w2 ⟨rfl, hy⟩; replace c1 := hy.cellOf c1; replace c2 := hy.cellOf c2; replace c3 := hy.cellOf c3; replace c4 := hy.cellOf c4; replace hx := hx.trans hy; clear hy) | (go_at_call 32; refine (compareRatios_spec _ _ _ _ _).mono ?_; rintro e w2 ⟨rfl, hy⟩; replace c1 := hy.cellOf c1; replace c2 := hy.cellOf c2; replace c3 := hy.cellOf c3; replace c4 := hy.cellOf c4; replace hx := hx.trans hy; clear hy))
        go_ret
        exact ⟨rfl, hx⟩
      obtain ⟨p1, p2⟩ := pr_bd (n := x) (d := y) (e := v) (by omega) (by omega) (by omega) (by omega) (by omega)
      obtain ⟨p3, p4⟩ := pr_bd (n := u) (d := v) (e := y) (by omega) (by omega) (by omega) (by omega) (by omega)
      rcases Int.lt_trichotomy (x * v) (u * y) with h | h | h
      · have z := cmpZ_lt h
        rw [z] at q1 q2
        have f1 : (x * v == u * y) = false := beq_eq_false_iff_ne.2 (by omega)
        go_wp2_with (first | (go_at_call 31; refine (compareRatios_impl _ _ _ _ _).mono ?_; rintro e w2 ⟨rfl, hy⟩; replace c1 := hy.cellOf c1; replace c2 := hy.cellOf c2; replace c3 := hy.cellOf c3; replace c4 := hy.cellOf c4; replace hx := hx.trans hy; clear hy) | (go_at_call 32; refine (compareRatios_spec _ _ _ _ _).mono ?_; rintro e w2 ⟨rfl, hy⟩; replace c1 := hy.cellOf c1; replace c2 := hy.cellOf c2; replace c3 := hy.cellOf c3; replace c4 := hy.cellOf c4; replace hx := hx.trans hy; clear hy))
        go_quiet (fail)
        go_wp2
        go_ret
        exact ⟨rfl, hx.drewN _⟩
      · have z := cmpZ_eq h
        rw [z] at q1 q2
        have f1 : (x * v == u * y) = true := beq_iff_eq.2 h
        have f2 : decide (x * v < u * y) = false := decide_eq_false (by omega)
        clear h
        go_wp2_with (first | (go_at_call 31; refine (compareRatios_impl _ _ _ _ _).mono ?_; rintro e w2 ⟨rfl, hy⟩; replace c1 := hy.cellOf c1; replace c2 := hy.cellOf c2; replace c3 := hy.cellOf c3; replace c4 := hy.cellOf c4; replace hx := hx.trans hy; clear hy) | (go_at_call 32; refine (compareRatios_spec _ _ _ _ _).mono ?_; rintro e w2 ⟨rfl, hy⟩; replace c1 := hy.cellOf c1; replace c2 := hy.cellOf c2; replace c3 := hy.cellOf c3; replace c4 := hy.cellOf c4; replace hx := hx.trans hy; clear hy))
        go_quiet (fail)
        go_wp2
        go_ret
        exact ⟨rfl, hx.drewN _⟩
      · have z := cmpZ_gt h
        rw [z] at q1 q2
        have f1 : (x * v == u * y) = false := beq_eq_false_iff_ne.2 (by omega)
        have f2 : decide (x * v < u * y) = false := decide_eq_false (by omega)
        go_wp2_with (first | (go_at_call 31; refine (compareRatios_impl _ _ _ _ _).mono ?_; rintro e w2 ⟨rfl, hy⟩; replace c1 := hy.cellOf c1; replace c2 := hy.cellOf c2; replace c3 := hy.cellOf c3; replace c4 := hy.cellOf c4; replace hx := hx.trans hy; clear hy) | (go_at_call 32; refine (compareRatios_spec _ _ _ _ _).mono ?_; rintro e w2 ⟨rfl, hy⟩; replace c1 := hy.cellOf c1; replace c2 := hy.cellOf c2; replace c3 := hy.cellOf c3; replace c4 := hy.cellOf c4; replace hx := hx.trans hy; clear hy))
        go_quiet (fail)
        go_wp2
        go_ret
        exact ⟨rfl, hx.drewN _⟩
    · have e1 : crC x y u v = 2 := if_neg hv
      clear hv
      go_wp2_with (first | (go_at_call 31; refine (compareRatios_impl _ _ _ _ _).mono ?_; rintro e w2 ⟨rfl, hy⟩; replace c1 := hy.cellOf c1; replace c2 := hy.cellOf c2; replace c3 := hy.cellOf c3; replace c4 := hy.cellOf c4; replace hx := hx.trans hy; clear hy) | (go_at_call 32; refine (compareRatios_spec _ _ _ _ _).mono ?_; rintro e w2 ⟨rfl, hy⟩; replace c1 := hy.cellOf c1; replace c2 := hy.cellOf c2; replace c3 := hy.cellOf c3; replace c4 := hy.cellOf c4; replace hx := hx.trans hy; clear hy))
      go_ret
      exact ⟨rfl, hx⟩

theorem own : ownKnob Try.prog.godebug = none := by kernel_rfl
theorem laidOut : laidOutB Try.prog = true := by kernel_rfl

set_option maxRecDepth 100000 in
theorem lifted (os : Os) (started : os.Started) (H : Type) (enc : TypeId × Value → H) :
    ReturnsInHanded {} Try.checked os 6 .any (Rows.fnRatiosSpec.pre6 enc Try.prog Try.f6 Rows.fnRatiosRow.domain false) (Rows.fnRatiosSpec.post enc Try.prog Try.f6 false true false false) := by
  refine returnsInHanded_of_change (C := Try.checked) own started (by kernel_rfl) Try.func6
    (ChangeSpec.witness6 (enc := enc) (C := Try.checked) false ⟨#[], #[.slice none 0 0], []⟩ 8 (by kernel_rfl) (by kernel_rfl) (by kernel_rfl) (by kernel_rfl)) ?_
  intro W base args ds gs before hval0 hW hcnd _
  have hval : ∀ (j : Nat) t v, Try.f6.params[j]? = some t → args[j]? = some v → Value.okWide Try.prog W .any base t v := hval0
  have hW' := hW
  obtain ⟨p, q, hA0, hV, rfl, hfz, hnd⟩ := hW
  have hA : DataW.TrodAll enc Try.prog W 0 (fun _ => true) true Try.f6.params.toList args.toList ds p := hA0
  rw [Try.params6] at hA hval
  obtain ⟨v0, vs0, d0, ds0, p0, q0, hargs, rfl, rfl, h0, r0⟩ := trodAll_cons hA
  obtain ⟨rfl, rfl, rfl⟩ := trodAll_nil r0
  obtain rfl : args = #[v0] := by cases args; simp_all
  obtain ⟨rfl, rfl⟩ := trodVars_none hV
  have k0 := h0
  have lt0 : ∀ x ∈ p0, x.block < W.heap.size := by obtain ⟨m, hm⟩ := k0; exact DataW.trod_lt m _ _ _ hm
  obtain ⟨a0, len0, cap0, rfl⟩ := okWide_slice Try.underlying22 (hval 0 22 v0 rfl rfl)
  obtain ⟨z0, w0⟩ : ∃ zs, IsRow .u8 W a0 len0 cap0 zs := by
    obtain ⟨fuel, hf⟩ := h0
    rcases open_ints Try.underlying22 Try.underlying5 (by kernel_rfl) hf with ⟨hcs, _⟩ | ⟨x, l, c, zs, hcs, _, hl, hm, hz, _, hcell, hwz⟩
    · simp [Value.cells] at hcs
      obtain ⟨rfl, rfl, rfl⟩ := hcs
      exact ⟨[], .inl ⟨rfl, rfl, rfl, rfl⟩⟩
    · simp [Value.cells] at hcs
      obtain ⟨rfl, rfl, rfl⟩ := hcs
      exact ⟨zs, .inr ⟨_, rfl, hl, hm, by simpa using hz, hcell, hwz⟩⟩
  clear hA0 hval0
  refine (walk a0 len0 cap0 z0 W w0).mono fun e W' ⟨he, hx⟩ => ?_
  have bel := hx.below
  subst he
  exact ⟨_, rfl, _, _, _, [], _, [], hW', trodAll_mk1 (shut_bool Try.underlying4 _), (trodAll_cons_mk (Below.trod laidOut (by kernel_rfl) (of_decide_eq_true (by kernel_rfl)) k0 bel lt0) trodAll_mk0), rfl, bel.frame _, fun h => by cases h⟩

theorem proved : Rows.FnRatiosSaid :=
  OpenClaim.holds_of_wide 6 Try.f6 rfl rfl rfl rfl rfl rfl rfl ⟨rfl, rfl, rfl, rfl, rfl⟩ rfl rfl rfl rfl rfl (by kernel_rfl) Try.func6 (by kernel_rfl)
    (of_decide_eq_true (by kernel_rfl)) (by unfold Func.isWrapper; first | (rw [if_pos (by decide +kernel)]; kernel_rfl) | (rw [if_neg (by decide +kernel)]; exact ⟨rfl, rfl⟩))
    (fun os started H enc _ => lifted os started H enc)

end Go.Proofs.Ytcdbnbfhohidnaa.fnRatios
