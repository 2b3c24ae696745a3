/- FnCross: for every code, crossing of the two segments that are drawn agrees with the reference model and is symmetric, segments that cross meet, and the place of the crossing lies between both ends. No condition. -/
import Derived.Test.YtcdbnbfhohidnaaDrawS
import Derived.Test.YtcdbnbfhohidnaaBig
import Derived.Test.YtcdbnbfhohidnaaRel4
import Derived.Test.YtcdbnbfhohidnaaPlace
import Derived.ChangeOld
import Derived.Below
import Derived.Lib.SmallJoins
namespace Go.Proofs.Ytcdbnbfhohidnaa.fnCross
open Go.ChangeShapes Go.WideShapes Go.ChangeAt Go.RowKit
open Go.Proofs.Ytcdbnbfhohidnaa.Kit Go.Proofs.Ytcdbnbfhohidnaa.Num Go.Proofs.Ytcdbnbfhohidnaa.Draw Go.Proofs.Ytcdbnbfhohidnaa.Pts Go.Proofs.Ytcdbnbfhohidnaa.Seg Go.Proofs.Ytcdbnbfhohidnaa.Gcd
set_option linter.unusedVariables false
set_option linter.unusedSimpArgs false

theorem crB_comm (a b c d p q u v : Int) : crB p q u v a b c d = crB a b c d p q u v := by unfold crB; rw [Bool.and_comm]
theorem hv_comm (a b c d p q u v : Int) : hvB p q u v a b c d false = hvB a b c d p q u v false := by
  unfold hvB; rw [crB_comm, Bool.or_comm (endB p q u v a b c d)]
theorem mul_neg_cases {s t : Int} (hs : -1 ≤ s ∧ s ≤ 1) (ht : -1 ≤ t ∧ t ≤ 1) (h : s * t < 0) : s = 1 ∧ t = -1 ∨ s = -1 ∧ t = 1 := by
  have h1 : s = -1 ∨ s = 0 ∨ s = 1 := by omega
  have h2 : t = -1 ∨ t = 0 ∨ t = 1 := by omega
  rcases h1 with rfl | rfl | rfl <;> rcases h2 with rfl | rfl | rfl <;> simp at h ⊢

theorem gcd_dvd_left' (a b : Int) (ha : 0 ≤ a) : ∃ k, a = gc a b * k := by
  unfold gc
  obtain ⟨k, hk⟩ := Nat.gcd_dvd_left a.toNat b.toNat
  exact ⟨k, by have : ((a.toNat : Nat) : Int) = ((a.toNat.gcd b.toNat * k : Nat) : Int) := congrArg _ hk; rw [Int.natCast_mul] at this; omega⟩
theorem gcd_dvd_right' (a b : Int) (hb : 0 ≤ b) : ∃ k, b = gc a b * k := by
  unfold gc
  obtain ⟨k, hk⟩ := Nat.gcd_dvd_right a.toNat b.toNat
  exact ⟨k, by have : ((b.toNat : Nat) : Int) = ((a.toNat.gcd b.toNat * k : Nat) : Int) := congrArg _ hk; rw [Int.natCast_mul] at this; omega⟩
/-- Where the ends lie strictly on both sides, the place lies strictly between 0 and 1. -/
theorem between {A C : Int} (h : sgn A * sgn C < 0) : sgn A ≠ sgn C ∧ 0 < plN A C ∧ plN A C < plD A C := by
  have hk := mul_neg_cases (Seg.sgn_bd A) (Seg.sgn_bd C) h
  have hne : sgn A ≠ sgn C := by omega
  refine ⟨hne, ?_⟩
  have key : 0 < ab A ∧ ab A < ab (A - C) := by
    rcases sgn_cases A with ⟨a1, a2⟩ | ⟨a1, a2⟩ | ⟨a1, a2⟩ <;> rcases sgn_cases C with ⟨c1, c2⟩ | ⟨c1, c2⟩ | ⟨c1, c2⟩ <;> (try omega)
    · unfold ab; rw [if_pos a1, if_pos (by omega)]; omega
    · unfold ab; rw [if_neg (by omega), if_neg (by omega)]; omega
  obtain ⟨k1, k2⟩ := key
  have hg := gc_pos (a := ab A) (b := ab (A - C)) (by omega)
  unfold plN plD
  rw [if_neg hne, if_neg hne]
  obtain ⟨k, hk⟩ := gcd_dvd_left' (ab A) (ab (A - C)) (by omega)
  obtain ⟨l, hl⟩ := gcd_dvd_right' (ab A) (ab (A - C)) (by omega)
  have e : ab A / gc (ab A) (ab (A - C)) = k := by
    rw [Int.ediv_eq_iff_eq_mul_right (by omega) ⟨k, hk⟩]; exact hk
  have e2 : ab (A - C) / gc (ab A) (ab (A - C)) = l := by
    rw [Int.ediv_eq_iff_eq_mul_right (by omega) ⟨l, hl⟩]; exact hl
  rw [e, e2]
  clear e e2
  generalize gc (ab A) (ab (A - C)) = G at *
  generalize ab A = X at *
  generalize ab (A - C) = Y at *
  constructor
  · rcases Int.lt_or_le 0 k with h | h
    · exact h
    · exfalso
      have := Int.mul_nonpos_of_nonneg_of_nonpos (show (0 : Int) ≤ G by omega) h
      omega
  · rcases Int.lt_or_le k l with h | h
    · exact h
    · exfalso
      have := Int.mul_le_mul_of_nonneg_left h (show (0 : Int) ≤ G by omega)
      omega

set_option maxRecDepth 100000 in
set_option maxHeartbeats 4000000 in
theorem walk (c0 : Option Addr) (len cap : Nat) (zs : List Int) (w : World) (hr : IsRow .u8 w c0 len cap zs) :
    Calls Try.prog 3 #[.slice c0 len cap] w fun e w' => e = .returned (.bool true) ∧ Ext w w' := by
  have HB := Lib.hid hr.bytes
  clear hr
  by_cases hl : 4096 < len
  · have g := show bigB len = true from decide_eq_true hl
    go_enter Try.func3, Try.ntmps3
    go_wp2_with (go_at_call 15; refine (big_any _ _ _ _).mono ?_; rintro e w' ⟨rfl, rfl⟩)
    go_ret
    exact ⟨rfl, Ext.refl _⟩
  · have g := show bigB len = false from decide_eq_false hl
    go_enter Try.func3, Try.ntmps3
    go_wp2_with fail
    refine (big_any _ _ _ _).mono ?_
    rintro e w' ⟨rfl, rfl⟩
    go_wp2_with fail
    refine (drawSegmentsCross_any c0 len cap _ HB.out (by omega)).mono ?_
    rintro e w1 ⟨a, b, c, d, p, q, u, v, rfl, hx⟩
    obtain ⟨⟨i0, i1, i2, i3⟩, _⟩ := ((Box.new4 (w := w1) (n := w1.heap.size) (x := .int .i64 a) (y := .int .i64 b) (z := .int .i64 c) (u := .int .i64 d) (t := 27) rfl).alloc (.cells #[.int .i64 p, .int .i64 q, .int .i64 u, .int .i64 v] 27)).four
    obtain ⟨⟨j0, j1, j2, j3⟩, _⟩ := (Box.new4 (w := w1.alloc (.cells #[.int .i64 a, .int .i64 b, .int .i64 c, .int .i64 d] 27)) (n := w1.heap.size + 1) (x := .int .i64 p) (y := .int .i64 q) (z := .int .i64 u) (u := .int .i64 v) (t := 27) (by simp)).four
    replace hx := (hx.alloc (.cells #[.int .i64 a, .int .i64 b, .int .i64 c, .int .i64 d] 27)).alloc (.cells #[.int .i64 p, .int .i64 q, .int .i64 u, .int .i64 v] 27)
    clear HB g hl
    by_cases hv : sgB a b c d = true ∧ sgB p q u v = true
    · have hv2 := And.intro hv.2 hv.1
      have e1 : hcC a b c d p q u v = 0 := if_pos hv
      have e2 : hcC p q u v a b c d = 0 := if_pos hv2
      have q1 : hcB a b c d p q u v true = crB a b c d p q u v := (if_pos hv).trans (hv_true _ _ _ _ _ _ _ _)
      have q2 : hcB p q u v a b c d true = crB a b c d p q u v := ((if_pos hv2).trans (hv_true _ _ _ _ _ _ _ _)).trans (crB_comm _ _ _ _ _ _ _ _)
      have q3 : hcB a b c d p q u v false = hvB a b c d p q u v false := if_pos hv
      have q4 : hcB p q u v a b c d false = hvB a b c d p q u v false := (if_pos hv2).trans (hv_comm _ _ _ _ _ _ _ _)
      cases hc : crB a b c d p q u v
      · rw [hc] at q1 q2
        cases hm : hvB a b c d p q u v false
        all_goals
          rw [hm] at q3 q4
          clear hv hv2 hc hm
          go_wp2_with (first | (go_at_call 17; refine (segmentsCross_impl _ _ _ _ _ _ _ _ _).mono ?_; rintro e w2 ⟨rfl, hy⟩; replace i0 := hy.cellOf i0; replace i1 := hy.cellOf i1; replace i2 := hy.cellOf i2; replace i3 := hy.cellOf i3; replace j0 := hy.cellOf j0; replace j1 := hy.cellOf j1; replace j2 := hy.cellOf j2; replace j3 := hy.cellOf j3; replace hx := hx.trans hy; clear hy) | (go_at_call 18; refine (segmentsCross_spec _ _ _ _ _ _ _ _ _).mono ?_; rintro e w2 ⟨rfl, hy⟩; replace i0 := hy.cellOf i0; replace i1 := hy.cellOf i1; replace i2 := hy.cellOf i2; replace i3 := hy.cellOf i3; replace j0 := hy.cellOf j0; replace j1 := hy.cellOf j1; replace j2 := hy.cellOf j2; replace j3 := hy.cellOf j3; replace hx := hx.trans hy; clear hy) | (go_at_call 19; refine (segmentsMeet_impl _ _ _ _ _ _ _ _ _).mono ?_; rintro e w2 ⟨rfl, hy⟩; replace i0 := hy.cellOf i0; replace i1 := hy.cellOf i1; replace i2 := hy.cellOf i2; replace i3 := hy.cellOf i3; replace j0 := hy.cellOf j0; replace j1 := hy.cellOf j1; replace j2 := hy.cellOf j2; replace j3 := hy.cellOf j3; replace hx := hx.trans hy; clear hy) | (go_at_call 20; refine (crossingPlace_impl _ _ _ _ _ _ _ _ _).mono ?_; rintro e w2 ⟨rfl, hy⟩; replace i0 := hy.cellOf i0; replace i1 := hy.cellOf i1; replace i2 := hy.cellOf i2; replace i3 := hy.cellOf i3; replace j0 := hy.cellOf j0; replace j1 := hy.cellOf j1; replace j2 := hy.cellOf j2; replace j3 := hy.cellOf j3; replace hx := hx.trans hy; clear hy; have lw2 : w1.heap.size + 1 < w2.heap.size := World.block_lt_of_cell? w2 _ j0; have lw3 : w1.heap.size < w2.heap.size := by omega))
          go_ret
          exact ⟨rfl, hx⟩
      · have hm : hvB a b c d p q u v false = true := by unfold hvB; rw [hc]; rfl
        rw [hc] at q1 q2
        rw [hm] at q3 q4
        have hs : sgn (crs p q u v a b) * sgn (crs p q u v c d) < 0 := by
          unfold crB sepB at hc
          rw [Bool.and_eq_true, decide_eq_true_eq, decide_eq_true_eq] at hc
          exact hc.2
        obtain ⟨h1, h2, h3⟩ := between hs
        have q5 : cpC a b c d p q u v = 0 := (if_pos hv).trans (if_neg h1)
        have q6 : 0 < cpN a b c d p q u v := by rw [show cpN a b c d p q u v = plN (crs p q u v a b) (crs p q u v c d) from if_pos hv]; exact h2
        have q7 : cpN a b c d p q u v < cpD a b c d p q u v := by
          rw [show cpN a b c d p q u v = plN (crs p q u v a b) (crs p q u v c d) from if_pos hv, show cpD a b c d p q u v = plD (crs p q u v a b) (crs p q u v c d) from if_pos hv]; exact h3
        clear hv hv2 hc hm hs h1 h2 h3
        go_wp2_with (first | (go_at_call 17; refine (segmentsCross_impl _ _ _ _ _ _ _ _ _).mono ?_; rintro e w2 ⟨rfl, hy⟩; replace i0 := hy.cellOf i0; replace i1 := hy.cellOf i1; replace i2 := hy.cellOf i2; replace i3 := hy.cellOf i3; replace j0 := hy.cellOf j0; replace j1 := hy.cellOf j1; replace j2 := hy.cellOf j2; replace j3 := hy.cellOf j3; replace hx := hx.trans hy; clear hy) | (go_at_call 18; refine (segmentsCross_spec _ _ _ _ _ _ _ _ _).mono ?_; rintro e w2 ⟨rfl, hy⟩; replace i0 := hy.cellOf i0; replace i1 := hy.cellOf i1; replace i2 := hy.cellOf i2; replace i3 := hy.cellOf i3; replace j0 := hy.cellOf j0; replace j1 := hy.cellOf j1; replace j2 := hy.cellOf j2; replace j3 := hy.cellOf j3; replace hx := hx.trans hy; clear hy) | (go_at_call 19; refine (segmentsMeet_impl _ _ _ _ _ _ _ _ _).mono ?_; rintro e w2 ⟨rfl, hy⟩; replace i0 := hy.cellOf i0; replace i1 := hy.cellOf i1; replace i2 := hy.cellOf i2; replace i3 := hy.cellOf i3; replace j0 := hy.cellOf j0; replace j1 := hy.cellOf j1; replace j2 := hy.cellOf j2; replace j3 := hy.cellOf j3; replace hx := hx.trans hy; clear hy) | (go_at_call 20; refine (crossingPlace_impl _ _ _ _ _ _ _ _ _).mono ?_; rintro e w2 ⟨rfl, hy⟩; replace i0 := hy.cellOf i0; replace i1 := hy.cellOf i1; replace i2 := hy.cellOf i2; replace i3 := hy.cellOf i3; replace j0 := hy.cellOf j0; replace j1 := hy.cellOf j1; replace j2 := hy.cellOf j2; replace j3 := hy.cellOf j3; replace hx := hx.trans hy; clear hy; have lw2 : w1.heap.size + 1 < w2.heap.size := World.block_lt_of_cell? w2 _ j0; have lw3 : w1.heap.size < w2.heap.size := by omega))
        go_ret
        exact ⟨rfl, hx.alloc _⟩
    · have e1 : hcC a b c d p q u v = 1 := if_neg hv
      have e2 : hcB a b c d p q u v true = false := if_neg hv
      clear hv
      go_wp2_with (first | (go_at_call 17; refine (segmentsCross_impl _ _ _ _ _ _ _ _ _).mono ?_; rintro e w2 ⟨rfl, hy⟩; replace i0 := hy.cellOf i0; replace i1 := hy.cellOf i1; replace i2 := hy.cellOf i2; replace i3 := hy.cellOf i3; replace j0 := hy.cellOf j0; replace j1 := hy.cellOf j1; replace j2 := hy.cellOf j2; replace j3 := hy.cellOf j3; replace hx := hx.trans hy; clear hy) | (go_at_call 18; refine (segmentsCross_spec _ _ _ _ _ _ _ _ _).mono ?_; rintro e w2 ⟨rfl, hy⟩; replace i0 := hy.cellOf i0; replace i1 := hy.cellOf i1; replace i2 := hy.cellOf i2; replace i3 := hy.cellOf i3; replace j0 := hy.cellOf j0; replace j1 := hy.cellOf j1; replace j2 := hy.cellOf j2; replace j3 := hy.cellOf j3; replace hx := hx.trans hy; clear hy) | (go_at_call 19; refine (segmentsMeet_impl _ _ _ _ _ _ _ _ _).mono ?_; rintro e w2 ⟨rfl, hy⟩; replace i0 := hy.cellOf i0; replace i1 := hy.cellOf i1; replace i2 := hy.cellOf i2; replace i3 := hy.cellOf i3; replace j0 := hy.cellOf j0; replace j1 := hy.cellOf j1; replace j2 := hy.cellOf j2; replace j3 := hy.cellOf j3; replace hx := hx.trans hy; clear hy) | (go_at_call 20; refine (crossingPlace_impl _ _ _ _ _ _ _ _ _).mono ?_; rintro e w2 ⟨rfl, hy⟩; replace i0 := hy.cellOf i0; replace i1 := hy.cellOf i1; replace i2 := hy.cellOf i2; replace i3 := hy.cellOf i3; replace j0 := hy.cellOf j0; replace j1 := hy.cellOf j1; replace j2 := hy.cellOf j2; replace j3 := hy.cellOf j3; replace hx := hx.trans hy; clear hy; have lw2 : w1.heap.size + 1 < w2.heap.size := World.block_lt_of_cell? w2 _ j0; have lw3 : w1.heap.size < w2.heap.size := by omega))
      go_ret
      exact ⟨rfl, hx⟩

theorem own : ownKnob Try.prog.godebug = none := by kernel_rfl
theorem laidOut : laidOutB Try.prog = true := by kernel_rfl

set_option maxRecDepth 100000 in
theorem lifted (os : Os) (started : os.Started) (H : Type) (enc : TypeId × Value → H) :
    ReturnsInHanded {} Try.checked os 3 .any (Rows.fnCrossSpec.pre6 enc Try.prog Try.f3 Rows.fnCrossRow.domain false) (Rows.fnCrossSpec.post enc Try.prog Try.f3 false true false false) := by
  refine returnsInHanded_of_change (C := Try.checked) own started (by kernel_rfl) Try.func3
    (ChangeSpec.witness6 (enc := enc) (C := Try.checked) false ⟨#[], #[.slice none 0 0], []⟩ 8 (by kernel_rfl) (by kernel_rfl) (by kernel_rfl) (by kernel_rfl)) ?_
  intro W base args ds gs before hval0 hW hcnd _
  have hval : ∀ (j : Nat) t v, Try.f3.params[j]? = some t → args[j]? = some v → Value.okWide Try.prog W .any base t v := hval0
  have hW' := hW
  obtain ⟨p, q, hA0, hV, rfl, hfz, hnd⟩ := hW
  have hA : DataW.TrodAll enc Try.prog W 0 (fun _ => true) true Try.f3.params.toList args.toList ds p := hA0
  rw [Try.params3] at hA hval
  obtain ⟨v0, vs0, d0, ds0, p0, q0, hargs, rfl, rfl, h0, r0⟩ := trodAll_cons hA
  obtain ⟨rfl, rfl, rfl⟩ := trodAll_nil r0
  obtain rfl : args = #[v0] := by cases args; simp_all
  obtain ⟨rfl, rfl⟩ := trodVars_none hV
  have k0 := h0
  have lt0 : ∀ x ∈ p0, x.block < W.heap.size := by obtain ⟨m, hm⟩ := k0; exact DataW.trod_lt m _ _ _ hm
  obtain ⟨a0, len0, cap0, rfl⟩ := okWide_slice Try.underlying22 (hval 0 22 v0 rfl rfl)
  obtain ⟨z0, w0⟩ : ∃ zs, IsRow .u8 W a0 len0 cap0 zs := by
    obtain ⟨fuel, hf⟩ := h0
    rcases open_ints Try.underlying22 Try.underlying5 (by kernel_rfl) hf with ⟨hcs, _⟩ | ⟨x, l, c, zs, hcs, _, hl, hm, hz, _, hcell, hwz⟩
    · simp [Value.cells] at hcs
      obtain ⟨rfl, rfl, rfl⟩ := hcs
      exact ⟨[], .inl ⟨rfl, rfl, rfl, rfl⟩⟩
    · simp [Value.cells] at hcs
      obtain ⟨rfl, rfl, rfl⟩ := hcs
      exact ⟨zs, .inr ⟨_, rfl, hl, hm, by simpa using hz, hcell, hwz⟩⟩
  clear hA0 hval0
  refine (walk a0 len0 cap0 z0 W w0).mono fun e W' ⟨he, hx⟩ => ?_
  have bel := hx.below
  subst he
  exact ⟨_, rfl, _, _, _, [], _, [], hW', trodAll_mk1 (shut_bool Try.underlying4 _), (trodAll_cons_mk (Below.trod laidOut (by kernel_rfl) (of_decide_eq_true (by kernel_rfl)) k0 bel lt0) trodAll_mk0), rfl, bel.frame _, fun h => by cases h⟩

theorem proved : Rows.FnCrossSaid :=
  OpenClaim.holds_of_wide 3 Try.f3 rfl rfl rfl rfl rfl rfl rfl ⟨rfl, rfl, rfl, rfl, rfl⟩ rfl rfl rfl rfl rfl (by kernel_rfl) Try.func3 (by kernel_rfl)
    (of_decide_eq_true (by kernel_rfl)) (by unfold Func.isWrapper; first | (rw [if_pos (by decide +kernel)]; kernel_rfl) | (rw [if_neg (by decide +kernel)]; exact ⟨rfl, rfl⟩))
    (fun os started H enc _ => lifted os started H enc)

end Go.Proofs.Ytcdbnbfhohidnaa.fnCross
