/- FnRoot: for every code, the root that is drawn is the one of the reference model, its square is at most the number, and the next square is greater. No condition. -/
import Derived.Test.YtcjcgiagacpolaaDraw1
import Derived.Test.YtcjcgiagacpolaaBig
import Derived.Test.YtcjcgiagacpolaaRoot
import Derived.ChangeOld
import Derived.Below
import Derived.Lib.SmallJoins
namespace Go.Proofs.Ytcjcgiagacpolaa.fnRoot
open Go.ChangeShapes Go.WideShapes Go.ChangeAt Go.RowKit
open Go.Proofs.Ytcjcgiagacpolaa.Kit Go.Proofs.Ytcjcgiagacpolaa.Num Go.Proofs.Ytcjcgiagacpolaa.Draw
set_option linter.unusedVariables false

open Go.Proofs.Ytcjcgiagacpolaa.Root Go.Proofs.Ytcjcgiagacpolaa.Rt

theorem rt_le {n : Int} (h0 : 0 ≤ n) (h : n ≤ 1000000000000000000) : rt n ≤ 1000000000 := by
  rcases Int.lt_or_le 1000000000 (rt n) with h1 | h1
  · have h2 := sq_le (a := 1000000001) (b := rt n) (by omega) (by omega)
    have h3 := rt_sq h0
    simp only [Int.reduceMul] at h2
    omega
  · exact h1

set_option maxHeartbeats 400000 in
theorem walk (a : Option Addr) (len cap : Nat) (zs : List Int) (w : World) (hr : IsRow .u8 w a len cap zs) :
    Calls Try.prog 4 #[.slice a len cap] w fun e w' => e = .returned (.bool true) ∧ Ext w w' := by
  have HB := Lib.hid hr.bytes
  clear hr
  by_cases hl : 4096 < len
  · have g := show bigB len = true from decide_eq_true hl
    go_enter Try.func4, Try.ntmps4
    go_wp2_with (go_at_call 11; refine (big_any _ _ _ _).mono ?_; rintro e w' ⟨rfl, rfl⟩)
    go_ret
    exact ⟨rfl, Ext.refl _⟩
  · have g := show bigB len = false from decide_eq_false hl
    go_enter Try.func4, Try.ntmps4
    go_wp2_with fail
    refine (big_any _ _ _ _).mono ?_
    rintro e w' ⟨rfl, rfl⟩
    go_wp2_with fail
    refine (drawRootOf_any a len cap _ HB.out (by omega)).mono ?_
    rintro e w1 ⟨n, rfl, hx⟩
    by_cases h : 0 ≤ n ∧ n ≤ 1000000000000000000
    · have HC := Lib.hid (show roC n = 0 from if_pos h)
      have HQ := Lib.hid (show roQ n = rt n from if_pos h)
      have b0 : 0 ≤ roQ n := by rw [HQ.out]; exact rt_nonneg n
      have b1 : roQ n ≤ 1000000000 := by rw [HQ.out]; exact rt_le h.1 h.2
      have b2 : roQ n * roQ n ≤ n := by rw [HQ.out]; exact rt_sq h.1
      have b3 : n < (roQ n + 1) * (roQ n + 1) := by rw [HQ.out]; exact lt_next n
      obtain ⟨b4, b5⟩ := sq_bd (m := roQ n) b0 (by omega)
      obtain ⟨b6, b7⟩ := sq_bd (m := roQ n + 1) (by omega) (by omega)
      have hcc : (roC n != 0) = false := by rw [HC.out]; rfl
      go_wp2_with (first | (go_at_call 17; refine (rootOf_spec _ _).mono ?_; rintro e w' ⟨rfl, rfl⟩) | (go_at_call 16; refine (rootOf_impl _ _).mono ?_; rintro e w' ⟨rfl, rfl⟩))
      go_ret
      exact ⟨rfl, hx⟩
    · have HC := Lib.hid (show roC n = 2 from if_neg h)
      have hcc : (roC n != 0) = true := by rw [HC.out]; rfl
      clear h
      go_wp2_with (first | (go_at_call 17; refine (rootOf_spec _ _).mono ?_; rintro e w' ⟨rfl, rfl⟩) | (go_at_call 16; refine (rootOf_impl _ _).mono ?_; rintro e w' ⟨rfl, rfl⟩))
      go_ret
      exact ⟨rfl, hx⟩

theorem own : ownKnob Try.prog.godebug = none := by kernel_rfl
theorem laidOut : laidOutB Try.prog = true := by kernel_rfl

set_option maxRecDepth 100000 in
theorem lifted (os : Os) (started : os.Started) (H : Type) (enc : TypeId × Value → H) :
    ReturnsInHanded {} Try.checked os 4 .any (Rows.fnRootSpec.pre6 enc Try.prog Try.f4 Rows.fnRootRow.domain false) (Rows.fnRootSpec.post enc Try.prog Try.f4 false true false false) := by
  refine returnsInHanded_of_change (C := Try.checked) own started (by kernel_rfl) Try.func4
    (ChangeSpec.witness6 (enc := enc) (C := Try.checked) false ⟨#[], #[.slice none 0 0], []⟩ 8 (by kernel_rfl) (by kernel_rfl) (by kernel_rfl) (by kernel_rfl)) ?_
  intro W base args ds gs before hval0 hW hcnd _
  have hval : ∀ (j : Nat) t v, Try.f4.params[j]? = some t → args[j]? = some v → Value.okWide Try.prog W .any base t v := hval0
  have hW' := hW
  obtain ⟨p, q, hA0, hV, rfl, hfz, hnd⟩ := hW
  have hA : DataW.TrodAll enc Try.prog W 0 (fun _ => true) true Try.f4.params.toList args.toList ds p := hA0
  rw [Try.params4] at hA hval
  obtain ⟨v0, vs0, d0, ds0, p0, q0, hargs, rfl, rfl, h0, r0⟩ := trodAll_cons hA
  obtain ⟨rfl, rfl, rfl⟩ := trodAll_nil r0
  obtain rfl : args = #[v0] := by cases args; simp_all
  obtain ⟨rfl, rfl⟩ := trodVars_none hV
  have k0 := h0
  have lt0 : ∀ x ∈ p0, x.block < W.heap.size := by obtain ⟨m, hm⟩ := k0; exact DataW.trod_lt m _ _ _ hm
  obtain ⟨a0, len0, cap0, rfl⟩ := okWide_slice Try.underlying22 (hval 0 22 v0 rfl rfl)
  obtain ⟨z0, w0⟩ : ∃ zs, IsRow .u8 W a0 len0 cap0 zs := by
    obtain ⟨fuel, hf⟩ := h0
    rcases open_ints Try.underlying22 Try.underlying5 (by kernel_rfl) hf with ⟨hcs, _⟩ | ⟨x, l, c, zs, hcs, _, hl, hm, hz, _, hcell, hwz⟩
    · simp [Value.cells] at hcs
      obtain ⟨rfl, rfl, rfl⟩ := hcs
      exact ⟨[], .inl ⟨rfl, rfl, rfl, rfl⟩⟩
    · simp [Value.cells] at hcs
      obtain ⟨rfl, rfl, rfl⟩ := hcs
      exact ⟨zs, .inr ⟨_, rfl, hl, hm, by simpa using hz, hcell, hwz⟩⟩
  clear hA0 hval0
  refine (walk a0 len0 cap0 z0 W w0).mono fun e W' ⟨he, hx⟩ => ?_
  have bel := hx.below
  subst he
  exact ⟨_, rfl, _, _, _, [], _, [], hW', trodAll_mk1 (shut_bool Try.underlying4 _), (trodAll_cons_mk (Below.trod laidOut (by kernel_rfl) (of_decide_eq_true (by kernel_rfl)) k0 bel lt0) trodAll_mk0), rfl, bel.frame _, fun h => by cases h⟩

theorem proved : Rows.FnRootSaid :=
  OpenClaim.holds_of_wide 4 Try.f4 rfl rfl rfl rfl rfl rfl rfl ⟨rfl, rfl, rfl, rfl, rfl⟩ rfl rfl rfl rfl rfl (by kernel_rfl) Try.func4 (by kernel_rfl)
    (of_decide_eq_true (by kernel_rfl)) (by unfold Func.isWrapper; first | (rw [if_pos (by decide +kernel)]; kernel_rfl) | (rw [if_neg (by decide +kernel)]; exact ⟨rfl, rfl⟩))
    (fun os started H enc _ => lifted os started H enc)

end Go.Proofs.Ytcjcgiagacpolaa.fnRoot
