/- FnWay: for every code, the way across the line that is drawn agrees with the reference model, the way back crosses it in the opposite direction, and a way forward leads from before the line to behind it. No condition. -/
import Derived.Test.YtookaodccmlkoaaDrawWy
import Derived.Test.YtookaodccmlkoaaBig
import Derived.Test.YtookaodccmlkoaaWac
import Derived.ChangeOld
import Derived.Below
import Derived.Lib.SmallJoins
namespace Go.Proofs.Ytookaodccmlkoaa.fnWay
open Go.ChangeShapes Go.WideShapes Go.ChangeAt Go.RowKit
open Go.Proofs.Ytookaodccmlkoaa.Kit Go.Proofs.Ytookaodccmlkoaa.Num Go.Proofs.Ytookaodccmlkoaa.Draw Go.Proofs.Ytookaodccmlkoaa.Pts Go.Proofs.Ytookaodccmlkoaa.Seg Go.Proofs.Ytookaodccmlkoaa.Crs
set_option linter.unusedVariables false
set_option linter.unusedSimpArgs false

theorem sgn_neg (n : Int) : sgn (-n) = -sgn n := by
  unfold sgn
  split <;> split <;> (try split) <;> omega
theorem bs_comm (a b c d p q u v : Int) : bsB a b c d u v p q = bsB a b c d p q u v := by
  unfold bsB
  rw [show crs u v p q a b = -crs p q u v a b by unfold crs; grind, show crs u v p q c d = -crs p q u v c d by unfold crs; grind, sgn_neg, sgn_neg, Int.neg_mul_neg]
theorem wy_back (a b c d p q u v : Int) : wyI a b c d u v p q = -wyI a b c d p q u v := by
  unfold wyI
  rw [bs_comm a b c d p q u v]
  cases bhB a b c d p q <;> cases bhB a b c d u v <;> cases bsB a b c d p q u v <;> rfl
theorem wy_cases (a b c d p q u v : Int) : wyI a b c d p q u v = 0 ∨ (wyI a b c d p q u v = 1 ∧ trn a b c d p q ≤ 0 ∧ trn a b c d u v = 1) ∨ (wyI a b c d p q u v = -1 ∧ trn a b c d p q = 1 ∧ trn a b c d u v ≤ 0) := by
  have hp : ∀ x y, bhB a b c d x y = true → trn a b c d x y = 1 := fun x y h => by
    unfold bhB at h
    have h1 : 0 < crs a b c d x y := of_decide_eq_true h
    unfold trn sgn
    unfold crs at h1
    rw [if_neg (by omega), if_pos h1]
  have hn : ∀ x y, bhB a b c d x y = false → trn a b c d x y ≤ 0 := fun x y h => by
    unfold bhB at h
    have h1 : ¬ 0 < crs a b c d x y := of_decide_eq_false h
    unfold trn sgn
    unfold crs at h1
    split <;> omega
  unfold wyI
  cases h1 : bhB a b c d p q <;> cases h2 : bhB a b c d u v <;> cases bsB a b c d p q u v <;> simp <;> first | exact ⟨hn _ _ h1, hp _ _ h2⟩ | exact ⟨hp _ _ h1, hn _ _ h2⟩

set_option maxRecDepth 100000 in
set_option maxHeartbeats 4000000 in
theorem walk (c0 : Option Addr) (len cap : Nat) (zs : List Int) (w : World) (hr : IsRow .u8 w c0 len cap zs) :
    Calls Try.prog 3 #[.slice c0 len cap] w fun e w' => e = .returned (.bool true) ∧ Ext w w' := by
  have HB := Lib.hid hr.bytes
  clear hr
  by_cases hl : 4096 < len
  · have g := show bigB len = true from decide_eq_true hl
    go_enter Try.func3, Try.ntmps3
    go_wp2_with (go_at_call 9; refine (big_any _ _ _ _).mono ?_; rintro e w' ⟨rfl, rfl⟩)
    go_ret
    exact ⟨rfl, Ext.refl _⟩
  have g := show bigB len = false from decide_eq_false hl
  go_enter Try.func3, Try.ntmps3
  go_wp2_with fail
  refine (big_any _ _ _ _).mono ?_
  rintro e w' ⟨rfl, rfl⟩
  go_wp2_with fail
  refine (drawWayAcross_any c0 len cap _ HB.out (by omega)).mono ?_
  rintro e w1 ⟨a, b, c, d, p, q, u, v, rfl, hx⟩
  obtain ⟨W, hW⟩ : ∃ W, W = ((w1.alloc (.cells #[.int .i64 a, .int .i64 b, .int .i64 c, .int .i64 d] 27)).alloc (.cells #[.int .i64 p, .int .i64 q] 25)).alloc (.cells #[.int .i64 u, .int .i64 v] 25) := ⟨_, rfl⟩
  have B1 := Lib.hid (show Box W w1.heap.size [.int .i64 a, .int .i64 b, .int .i64 c, .int .i64 d] by rw [hW]; exact ((Box.new4 rfl).alloc _).alloc _)
  have B2 := Lib.hid (show Box W (w1.heap.size + 1) [.int .i64 p, .int .i64 q] by rw [hW]; exact (Box.new2 (by simp)).alloc _)
  have B3 := Lib.hid (show Box W (w1.heap.size + 1 + 1) [.int .i64 u, .int .i64 v] by rw [hW]; exact (Box.new2 (by simp)))
  replace hx := Lib.hid (show Ext w W from hW ▸ ((hx.alloc _).alloc _).alloc _)
  clear HB g hl
  have KP := Lib.hid (wayAcross_impl a b c d p q u v)
  have KS := Lib.hid (wayAcross_spec a b c d p q u v)
  have KB := Lib.hid (wayAcross_impl a b c d u v p q)
  have L1 := Lib.hid (beforeLine_impl a b c d p q)
  have L2 := Lib.hid (beforeLine_impl a b c d u v)
  obtain ⟨⟨i0, i1, i2, i3⟩, _⟩ := B1.out.four
  obtain ⟨⟨j0, j1⟩, _⟩ := B2.out.two
  obtain ⟨⟨k0, k1⟩, _⟩ := B3.out.two
  by_cases hv : sgB a b c d = true ∧ ptB p q = true ∧ ptB u v = true
  rotate_left
  · have e1 : waC a b c d p q u v = 1 := if_neg hv
    have e2 : waQ a b c d p q u v = 0 := if_neg hv
    rw [e1, e2] at KP KS
    clear hv e1 e2 L1 L2 KB
    go_wp2_with fail
    rw [← hW]
    clear hW
    refine (KP.out _).mono ?_
    rintro e w2 ⟨rfl, hy⟩
    replace i0 := hy.cellOf i0; replace i1 := hy.cellOf i1; replace i2 := hy.cellOf i2; replace i3 := hy.cellOf i3; replace j0 := hy.cellOf j0; replace j1 := hy.cellOf j1; replace k0 := hy.cellOf k0; replace k1 := hy.cellOf k1
    replace hx := Lib.hid (hx.out.trans hy)
    clear hy
    go_wp2_with fail
    refine (KS.out _).mono ?_
    rintro e w3 ⟨rfl, hy⟩
    go_wp2
    go_ret
    exact ⟨rfl, hx.out.trans hy⟩
  have hv2 : sgB a b c d = true ∧ ptB u v = true ∧ ptB p q = true := ⟨hv.1, hv.2.2, hv.2.1⟩
  have e1 : waC a b c d p q u v = 0 := if_pos hv
  have e2 : waQ a b c d p q u v = wyI a b c d p q u v := if_pos hv
  have e3 : waC a b c d u v p q = 0 := if_pos hv2
  have e4 : waQ a b c d u v p q = -wyI a b c d p q u v := (if_pos hv2).trans (wy_back a b c d p q u v)
  have e5 : blQ a b c d p q = trn a b c d p q := if_pos ⟨hv.1, hv.2.1⟩
  have e6 : blC a b c d p q = 0 := if_pos ⟨hv.1, hv.2.1⟩
  have e7 : blQ a b c d u v = trn a b c d u v := if_pos ⟨hv.1, hv.2.2⟩
  have e8 : blC a b c d u v = 0 := if_pos ⟨hv.1, hv.2.2⟩
  rw [e1, e2] at KP KS
  rw [e3, e4] at KB
  rw [e5, e6] at L1
  rw [e7, e8] at L2
  have HC := wy_cases a b c d p q u v
  generalize wyI a b c d p q u v = m at *
  generalize trn a b c d p q = x at *
  generalize trn a b c d u v = y at *
  clear e1 e2 e3 e4 e5 e6 e7 e8 hv hv2
  go_wp2_with fail
  rw [← hW]
  clear hW
  refine (KP.out _).mono ?_
  rintro e w2 ⟨rfl, hy⟩
  replace i0 := hy.cellOf i0; replace i1 := hy.cellOf i1; replace i2 := hy.cellOf i2; replace i3 := hy.cellOf i3; replace j0 := hy.cellOf j0; replace j1 := hy.cellOf j1; replace k0 := hy.cellOf k0; replace k1 := hy.cellOf k1
  replace hx := Lib.hid (hx.out.trans hy)
  clear hy
  go_wp2_with fail
  refine (KS.out _).mono ?_
  rintro e w3 ⟨rfl, hy⟩
  replace i0 := hy.cellOf i0; replace i1 := hy.cellOf i1; replace i2 := hy.cellOf i2; replace i3 := hy.cellOf i3; replace j0 := hy.cellOf j0; replace j1 := hy.cellOf j1; replace k0 := hy.cellOf k0; replace k1 := hy.cellOf k1
  replace hx := Lib.hid (hx.out.trans hy)
  clear hy
  go_wp2_with fail
  refine (KB.out _).mono ?_
  rintro e w4 ⟨rfl, hy⟩
  replace i0 := hy.cellOf i0; replace i1 := hy.cellOf i1; replace i2 := hy.cellOf i2; replace i3 := hy.cellOf i3; replace j0 := hy.cellOf j0; replace j1 := hy.cellOf j1; replace k0 := hy.cellOf k0; replace k1 := hy.cellOf k1
  replace hx := Lib.hid (hx.out.trans hy)
  clear hy
  go_wp2_with fail
  refine (L1.out _).mono ?_
  rintro e w5 ⟨rfl, hy⟩
  replace i0 := hy.cellOf i0; replace i1 := hy.cellOf i1; replace i2 := hy.cellOf i2; replace i3 := hy.cellOf i3; replace k0 := hy.cellOf k0; replace k1 := hy.cellOf k1
  replace hx := Lib.hid (hx.out.trans hy)
  clear hy
  go_wp2_with fail
  refine (L2.out _).mono ?_
  rintro e w6 ⟨rfl, hy⟩
  replace hx := Lib.hid (hx.out.trans hy)
  clear hy KP KS KB L1 L2 i0 i1 i2 i3 j0 j1 k0 k1
  rcases HC with rfl | ⟨rfl, h1, rfl⟩ | ⟨rfl, rfl, h1⟩
  · go_wp2
    go_ret
    exact ⟨rfl, hx.out⟩
  · have z1 : decide (x ≤ 0) = true := decide_eq_true h1
    go_wp2
    go_ret
    exact ⟨rfl, hx.out⟩
  · have z1 : decide (y ≤ 0) = true := decide_eq_true h1
    go_wp2
    go_ret
    exact ⟨rfl, hx.out⟩

theorem own : ownKnob Try.prog.godebug = none := by kernel_rfl
theorem laidOut : laidOutB Try.prog = true := by kernel_rfl

set_option maxRecDepth 100000 in
theorem lifted (os : Os) (started : os.Started) (H : Type) (enc : TypeId × Value → H) :
    ReturnsInHanded {} Try.checked os 3 .any (Rows.fnWaySpec.pre6 enc Try.prog Try.f3 Rows.fnWayRow.domain false) (Rows.fnWaySpec.post enc Try.prog Try.f3 false true false false) := by
  refine returnsInHanded_of_change (C := Try.checked) own started (by kernel_rfl) Try.func3
    (ChangeSpec.witness6 (enc := enc) (C := Try.checked) false ⟨#[], #[.slice none 0 0], []⟩ 8 (by kernel_rfl) (by kernel_rfl) (by kernel_rfl) (by kernel_rfl)) ?_
  intro W base args ds gs before hval0 hW hcnd _
  have hval : ∀ (j : Nat) t v, Try.f3.params[j]? = some t → args[j]? = some v → Value.okWide Try.prog W .any base t v := hval0
  have hW' := hW
  obtain ⟨p, q, hA0, hV, rfl, hfz, hnd⟩ := hW
  have hA : DataW.TrodAll enc Try.prog W 0 (fun _ => true) true Try.f3.params.toList args.toList ds p := hA0
  rw [Try.params3] at hA hval
  obtain ⟨v0, vs0, d0, ds0, p0, q0, hargs, rfl, rfl, h0, r0⟩ := trodAll_cons hA
  obtain ⟨rfl, rfl, rfl⟩ := trodAll_nil r0
  obtain rfl : args = #[v0] := by cases args; simp_all
  obtain ⟨rfl, rfl⟩ := trodVars_none hV
  have k0 := h0
  have lt0 : ∀ x ∈ p0, x.block < W.heap.size := by obtain ⟨m, hm⟩ := k0; exact DataW.trod_lt m _ _ _ hm
  obtain ⟨a0, len0, cap0, rfl⟩ := okWide_slice Try.underlying22 (hval 0 22 v0 rfl rfl)
  obtain ⟨z0, w0⟩ : ∃ zs, IsRow .u8 W a0 len0 cap0 zs := by
    obtain ⟨fuel, hf⟩ := h0
    rcases open_ints Try.underlying22 Try.underlying5 (by kernel_rfl) hf with ⟨hcs, _⟩ | ⟨x, l, c, zs, hcs, _, hl, hm, hz, _, hcell, hwz⟩
    · simp [Value.cells] at hcs
      obtain ⟨rfl, rfl, rfl⟩ := hcs
      exact ⟨[], .inl ⟨rfl, rfl, rfl, rfl⟩⟩
    · simp [Value.cells] at hcs
      obtain ⟨rfl, rfl, rfl⟩ := hcs
      exact ⟨zs, .inr ⟨_, rfl, hl, hm, by simpa using hz, hcell, hwz⟩⟩
  clear hA0 hval0
  refine (walk a0 len0 cap0 z0 W w0).mono fun e W' ⟨he, hx⟩ => ?_
  have bel := hx.below
  subst he
  exact ⟨_, rfl, _, _, _, [], _, [], hW', trodAll_mk1 (shut_bool Try.underlying4 _), (trodAll_cons_mk (Below.trod laidOut (by kernel_rfl) (of_decide_eq_true (by kernel_rfl)) k0 bel lt0) trodAll_mk0), rfl, bel.frame _, fun h => by cases h⟩

theorem proved : Rows.FnWaySaid :=
  OpenClaim.holds_of_wide 3 Try.f3 rfl rfl rfl rfl rfl rfl rfl ⟨rfl, rfl, rfl, rfl, rfl⟩ rfl rfl rfl rfl rfl (by kernel_rfl) Try.func3 (by kernel_rfl)
    (of_decide_eq_true (by kernel_rfl)) (by unfold Func.isWrapper; first | (rw [if_pos (by decide +kernel)]; kernel_rfl) | (rw [if_neg (by decide +kernel)]; exact ⟨rfl, rfl⟩))
    (fun os started H enc _ => lifted os started H enc)

end Go.Proofs.Ytookaodccmlkoaa.fnWay
