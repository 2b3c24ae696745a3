/- FnExactPointAt: for all arguments, impl.PointAt and spec.PointAt answer the same, and the same code. No condition. -/
import Derived.Test.YtmliggimmfbbdaaPat
import Derived.Test.YtmliggimmfbbdaaOpn
import Derived.ChangeOld
import Derived.Below
import Derived.Lib.SmallJoins
import Derived.Deep.DeepCutAuto
namespace Go.Proofs.Ytmliggimmfbbdaa.fnExactPointAt
open Go.ChangeShapes Go.WideShapes Go.ChangeAt Go.RowKit
open Go.Proofs.Ytmliggimmfbbdaa.Kit Go.Proofs.Ytmliggimmfbbdaa.Pts Go.Proofs.Ytmliggimmfbbdaa.Seg Go.Proofs.Ytmliggimmfbbdaa.Crs
set_option linter.unusedVariables false
set_option linter.unusedSimpArgs false

set_option maxHeartbeats 2000000 in
theorem walk (a b c d p q : Int) (w : World) : Calls Try.prog 10 #[Sg a b c d, Pt p q] w fun e w' => e = .returned (.bool true) ∧ Ext w w' := by
  obtain ⟨⟨c0, c1, c2, c3⟩, _⟩ := ((Box.new4 (w := w) (n := w.heap.size) (x := .int .i64 a) (y := .int .i64 b) (z := .int .i64 c) (u := .int .i64 d) (t := 71) (by simp)).alloc (.cells #[.int .i64 p, .int .i64 q] 65)).four
  obtain ⟨⟨c4, c5⟩, _⟩ := (Box.new2 (w := (w.alloc (.cells #[.int .i64 a, .int .i64 b, .int .i64 c, .int .i64 d] 71))) (n := w.heap.size + 1) (x := .int .i64 p) (y := .int .i64 q) (t := 65) (by simp)).two
  have hx := ((Ext.refl w).alloc (.cells #[.int .i64 a, .int .i64 b, .int .i64 c, .int .i64 d] 71)).alloc (.cells #[.int .i64 p, .int .i64 q] 65)
  have ec0 : ∀ w', Ext ((w.alloc (.cells #[.int .i64 a, .int .i64 b, .int .i64 c, .int .i64 d] 71)).alloc (.cells #[.int .i64 p, .int .i64 q] 65)) w' → w'.cell? ⟨w.heap.size, 0, none⟩ = some (.int .i64 a) := fun w' h => h.cellOf c0
  have ec1 : ∀ w', Ext ((w.alloc (.cells #[.int .i64 a, .int .i64 b, .int .i64 c, .int .i64 d] 71)).alloc (.cells #[.int .i64 p, .int .i64 q] 65)) w' → w'.cell? ⟨w.heap.size, 1, none⟩ = some (.int .i64 b) := fun w' h => h.cellOf c1
  have ec2 : ∀ w', Ext ((w.alloc (.cells #[.int .i64 a, .int .i64 b, .int .i64 c, .int .i64 d] 71)).alloc (.cells #[.int .i64 p, .int .i64 q] 65)) w' → w'.cell? ⟨w.heap.size, 2, none⟩ = some (.int .i64 c) := fun w' h => h.cellOf c2
  have ec3 : ∀ w', Ext ((w.alloc (.cells #[.int .i64 a, .int .i64 b, .int .i64 c, .int .i64 d] 71)).alloc (.cells #[.int .i64 p, .int .i64 q] 65)) w' → w'.cell? ⟨w.heap.size, 3, none⟩ = some (.int .i64 d) := fun w' h => h.cellOf c3
  have ec4 : ∀ w', Ext ((w.alloc (.cells #[.int .i64 a, .int .i64 b, .int .i64 c, .int .i64 d] 71)).alloc (.cells #[.int .i64 p, .int .i64 q] 65)) w' → w'.cell? ⟨w.heap.size + 1, 0, none⟩ = some (.int .i64 p) := fun w' h => h.cellOf c4
  have ec5 : ∀ w', Ext ((w.alloc (.cells #[.int .i64 a, .int .i64 b, .int .i64 c, .int .i64 d] 71)).alloc (.cells #[.int .i64 p, .int .i64 q] 65)) w' → w'.cell? ⟨w.heap.size + 1, 1, none⟩ = some (.int .i64 q) := fun w' h => h.cellOf c5
  clear c0 c1 c2 c3 c4 c5
  go_enter Try.func10, Try.ntmps10
  go_upto_region 1 with fail
  go_cut [5, 6] (fun s t wx => t = .int .i64 (Crs.paC a b c d p q) ∧ (∃ B, s = .pointer (some ⟨B, 0, none⟩) ∧ Box wx B [.int .i64 (Crs.paX a b c d p q), .int .i64 (Crs.paY a b c d p q)]) ∧ Ext ((w.alloc (.cells #[.int .i64 a, .int .i64 b, .int .i64 c, .int .i64 d] 71)).alloc (.cells #[.int .i64 p, .int .i64 q] 65)) wx)
  case first =>
    go_region_held3 (fun w' => Ext ((w.alloc (.cells #[.int .i64 a, .int .i64 b, .int .i64 c, .int .i64 d] 71)).alloc (.cells #[.int .i64 p, .int .i64 q] 65)) w')
      (first | exact (Ext.refl _).drew | exact Ext.trans (by assumption) hy | exact Ext.alloc (by assumption) _ | exact Ext.alloc hS _ | exact Ext.setNew (Ext.setNew (by assumption) A1 _) A1 _)
      (first | (go_at_call 42; refine (toSegment_any _ _ _ _ _).mono ?_; rintro e w1 ⟨rfl, hy⟩; (first | (replace A0 := Box.ext A0 hy; obtain ⟨⟨a0, a1⟩, a2, a3⟩ := A0.two) | (have AB : Box w1 (w.heap.size + 1 + 1) [.int .i64 0, .int .i64 0] ∧ (((w.alloc (.cells #[.int .i64 a, .int .i64 b, .int .i64 c, .int .i64 d] 71)).alloc (.cells #[.int .i64 p, .int .i64 q] 65))).heap.size ≤ w.heap.size + 1 + 1 := ⟨(Box.new2 (t := 28) (by simp)).drew.ext hy, by simp⟩; obtain ⟨A0, A1⟩ := AB; obtain ⟨⟨a0, a1⟩, a2, a3⟩ := A0.two) | (have AB := Ext.newBox (t := 28) (x := .int .i64 0) (y := .int .i64 0) (m := (((w.alloc (.cells #[.int .i64 a, .int .i64 b, .int .i64 c, .int .i64 d] 71)).alloc (.cells #[.int .i64 p, .int .i64 q] 65))).heap.size) hy (by first | exact Nat.le_refl _ | exact Ext.size hS | exact Ext.size (by assumption)); obtain ⟨A0, A1⟩ := AB; obtain ⟨⟨a0, a1⟩, a2, a3⟩ := A0.two) | skip); (try clear hS); have hS : Ext ((w.alloc (.cells #[.int .i64 a, .int .i64 b, .int .i64 c, .int .i64 d] 71)).alloc (.cells #[.int .i64 p, .int .i64 q] 65)) w1 := Ext.trans (by assumption) hy) | (go_at_call 43; refine (toRatio_any _ _ _).mono ?_; rintro e w1 ⟨rfl, hy⟩; (first | (replace A0 := Box.ext A0 hy; obtain ⟨⟨a0, a1⟩, a2, a3⟩ := A0.two) | (have AB : Box w1 (w.heap.size + 1 + 1) [.int .i64 0, .int .i64 0] ∧ (((w.alloc (.cells #[.int .i64 a, .int .i64 b, .int .i64 c, .int .i64 d] 71)).alloc (.cells #[.int .i64 p, .int .i64 q] 65))).heap.size ≤ w.heap.size + 1 + 1 := ⟨(Box.new2 (t := 28) (by simp)).drew.ext hy, by simp⟩; obtain ⟨A0, A1⟩ := AB; obtain ⟨⟨a0, a1⟩, a2, a3⟩ := A0.two) | (have AB := Ext.newBox (t := 28) (x := .int .i64 0) (y := .int .i64 0) (m := (((w.alloc (.cells #[.int .i64 a, .int .i64 b, .int .i64 c, .int .i64 d] 71)).alloc (.cells #[.int .i64 p, .int .i64 q] 65))).heap.size) hy (by first | exact Nat.le_refl _ | exact Ext.size hS | exact Ext.size (by assumption)); obtain ⟨A0, A1⟩ := AB; obtain ⟨⟨a0, a1⟩, a2, a3⟩ := A0.two) | skip); (try clear hS); have hS : Ext ((w.alloc (.cells #[.int .i64 a, .int .i64 b, .int .i64 c, .int .i64 d] 71)).alloc (.cells #[.int .i64 p, .int .i64 q] 65)) w1 := Ext.trans (by assumption) hy) | (go_at_call 41; refine (pointAt_spec _ _ _ _ _ _ _).mono ?_; rintro e w1 ⟨rfl, hy⟩; (first | (replace A0 := Box.ext A0 hy; obtain ⟨⟨a0, a1⟩, a2, a3⟩ := A0.two) | (have AB : Box w1 (w.heap.size + 1 + 1) [.int .i64 0, .int .i64 0] ∧ (((w.alloc (.cells #[.int .i64 a, .int .i64 b, .int .i64 c, .int .i64 d] 71)).alloc (.cells #[.int .i64 p, .int .i64 q] 65))).heap.size ≤ w.heap.size + 1 + 1 := ⟨(Box.new2 (t := 28) (by simp)).drew.ext hy, by simp⟩; obtain ⟨A0, A1⟩ := AB; obtain ⟨⟨a0, a1⟩, a2, a3⟩ := A0.two) | (have AB := Ext.newBox (t := 28) (x := .int .i64 0) (y := .int .i64 0) (m := (((w.alloc (.cells #[.int .i64 a, .int .i64 b, .int .i64 c, .int .i64 d] 71)).alloc (.cells #[.int .i64 p, .int .i64 q] 65))).heap.size) hy (by first | exact Nat.le_refl _ | exact Ext.size hS | exact Ext.size (by assumption)); obtain ⟨A0, A1⟩ := AB; obtain ⟨⟨a0, a1⟩, a2, a3⟩ := A0.two) | skip); (try clear hS); have hS : Ext ((w.alloc (.cells #[.int .i64 a, .int .i64 b, .int .i64 c, .int .i64 d] 71)).alloc (.cells #[.int .i64 p, .int .i64 q] 65)) w1 := Ext.trans (by assumption) hy))
    all_goals
      go_wp2_with fail
      go_meet
      exact ⟨rfl, ⟨_, rfl, (by first | exact Box.new2 rfl | exact Box.set2 A0)⟩, (by assumption)⟩
  case rest =>
    obtain ⟨rfl, ⟨B, rfl, HB⟩, hxx⟩ := hcut
    obtain ⟨wy, rfl⟩ : ∃ wy : World, wy = wc := ⟨_, rfl⟩
    obtain ⟨⟨d0, d1⟩, _⟩ := HB.two
    replace ec0 : ∀ w', Ext wy w' → w'.cell? ⟨w.heap.size, 0, none⟩ = some (.int .i64 a) := fun w' h => h.cellOf (ec0 _ hxx)
    replace ec1 : ∀ w', Ext wy w' → w'.cell? ⟨w.heap.size, 1, none⟩ = some (.int .i64 b) := fun w' h => h.cellOf (ec1 _ hxx)
    replace ec2 : ∀ w', Ext wy w' → w'.cell? ⟨w.heap.size, 2, none⟩ = some (.int .i64 c) := fun w' h => h.cellOf (ec2 _ hxx)
    replace ec3 : ∀ w', Ext wy w' → w'.cell? ⟨w.heap.size, 3, none⟩ = some (.int .i64 d) := fun w' h => h.cellOf (ec3 _ hxx)
    replace ec4 : ∀ w', Ext wy w' → w'.cell? ⟨w.heap.size + 1, 0, none⟩ = some (.int .i64 p) := fun w' h => h.cellOf (ec4 _ hxx)
    replace ec5 : ∀ w', Ext wy w' → w'.cell? ⟨w.heap.size + 1, 1, none⟩ = some (.int .i64 q) := fun w' h => h.cellOf (ec5 _ hxx)
    replace hx := hx.trans hxx
    clear d0 d1
    go_upto_region 2 with fail
    go_cut [7, 8] (fun s t wx => t = .int .i64 (Crs.paC a b c d p q) ∧ (∃ B, s = .pointer (some ⟨B, 0, none⟩) ∧ Box wx B [.int .i64 (Crs.paX a b c d p q), .int .i64 (Crs.paY a b c d p q)]) ∧ Ext wy wx)
    case first =>
      go_region_held3 (fun w' => Ext wy w')
        (first | exact (Ext.refl _).drew | exact Ext.trans (by assumption) hy | exact Ext.alloc (by assumption) _ | exact Ext.alloc hS _ | exact Ext.setNew (Ext.setNew (by assumption) A1 _) A1 _)
        (first | (go_at_call 42; refine (toSegment_any _ _ _ _ _).mono ?_; rintro e w1 ⟨rfl, hy⟩; (first | (replace A0 := Box.ext A0 hy; obtain ⟨⟨a0, a1⟩, a2, a3⟩ := A0.two) | (have AB : Box w1 (wy.heap.size) [.int .i64 0, .int .i64 0] ∧ (wy).heap.size ≤ wy.heap.size := ⟨(Box.new2 (t := 28) (by simp)).drew.ext hy, by simp⟩; obtain ⟨A0, A1⟩ := AB; obtain ⟨⟨a0, a1⟩, a2, a3⟩ := A0.two) | (have AB := Ext.newBox (t := 28) (x := .int .i64 0) (y := .int .i64 0) (m := (wy).heap.size) hy (by first | exact Nat.le_refl _ | exact Ext.size hS | exact Ext.size (by assumption)); obtain ⟨A0, A1⟩ := AB; obtain ⟨⟨a0, a1⟩, a2, a3⟩ := A0.two) | skip); (try clear hS); have hS : Ext wy w1 := Ext.trans (by assumption) hy) | (go_at_call 43; refine (toRatio_any _ _ _).mono ?_; rintro e w1 ⟨rfl, hy⟩; (first | (replace A0 := Box.ext A0 hy; obtain ⟨⟨a0, a1⟩, a2, a3⟩ := A0.two) | (have AB : Box w1 (wy.heap.size) [.int .i64 0, .int .i64 0] ∧ (wy).heap.size ≤ wy.heap.size := ⟨(Box.new2 (t := 28) (by simp)).drew.ext hy, by simp⟩; obtain ⟨A0, A1⟩ := AB; obtain ⟨⟨a0, a1⟩, a2, a3⟩ := A0.two) | (have AB := Ext.newBox (t := 28) (x := .int .i64 0) (y := .int .i64 0) (m := (wy).heap.size) hy (by first | exact Nat.le_refl _ | exact Ext.size hS | exact Ext.size (by assumption)); obtain ⟨A0, A1⟩ := AB; obtain ⟨⟨a0, a1⟩, a2, a3⟩ := A0.two) | skip); (try clear hS); have hS : Ext wy w1 := Ext.trans (by assumption) hy) | (go_at_call 44; refine (pointAt_impl _ _ _ _ _ _ _).mono ?_; rintro e w1 ⟨rfl, hy⟩; (first | (replace A0 := Box.ext A0 hy; obtain ⟨⟨a0, a1⟩, a2, a3⟩ := A0.two) | (have AB : Box w1 (wy.heap.size) [.int .i64 0, .int .i64 0] ∧ (wy).heap.size ≤ wy.heap.size := ⟨(Box.new2 (t := 28) (by simp)).drew.ext hy, by simp⟩; obtain ⟨A0, A1⟩ := AB; obtain ⟨⟨a0, a1⟩, a2, a3⟩ := A0.two) | (have AB := Ext.newBox (t := 28) (x := .int .i64 0) (y := .int .i64 0) (m := (wy).heap.size) hy (by first | exact Nat.le_refl _ | exact Ext.size hS | exact Ext.size (by assumption)); obtain ⟨A0, A1⟩ := AB; obtain ⟨⟨a0, a1⟩, a2, a3⟩ := A0.two) | skip); (try clear hS); have hS : Ext wy w1 := Ext.trans (by assumption) hy))
      all_goals
        go_wp2_with fail
        go_meet
        exact ⟨rfl, ⟨_, rfl, (by first | exact Box.new2 rfl | exact Box.set2 A0)⟩, (by assumption)⟩
    case rest =>
      obtain ⟨rfl, ⟨B2, rfl, HB2⟩, hx2⟩ := hcut
      obtain ⟨⟨d0, d1⟩, _⟩ := HB2.two
      obtain ⟨⟨g0, g1⟩, _⟩ := (HB.ext hx2).two
      replace hx := hx.trans hx2
      clear ec0 ec1 ec2 ec3 ec4 ec5 HB HB2 hx2 hxx
      go_wp2_with (go_at_call 37; refine (eqPoint_same _ _ _).mono ?_; rintro e w3 ⟨rfl, hy⟩; replace hx := hx.trans hy; clear hy)
      go_ret
      exact ⟨rfl, hx⟩

theorem own : ownKnob Try.prog.godebug = none := by kernel_rfl
theorem laidOut : laidOutB Try.prog = true := by kernel_rfl

set_option maxRecDepth 100000 in
theorem lifted (os : Os) (started : os.Started) (H : Type) (enc : TypeId × Value → H) :
    ReturnsInHanded {} Try.checked os 10 .any (Rows.fnExactPointAtSpec.pre6 enc Try.prog Try.f10 Rows.fnExactPointAtRow.domain false) (Rows.fnExactPointAtSpec.post enc Try.prog Try.f10 false true false false) := by
  refine returnsInHanded_of_change (C := Try.checked) own started (by kernel_rfl) Try.func10
    (ChangeSpec.witness6 (enc := enc) (C := Try.checked) false ⟨#[], #[.agg #[.int .i64 0, .int .i64 0, .int .i64 0, .int .i64 0], .agg #[.int .i64 0, .int .i64 0]], []⟩ 8 (by kernel_rfl) (by kernel_rfl) (by kernel_rfl) (by kernel_rfl)) ?_
  intro W base args ds gs before hval0 hW hcnd _
  have hval : ∀ (j : Nat) t v, Try.f10.params[j]? = some t → args[j]? = some v → Value.okWide Try.prog W .any base t v := hval0
  have hW' := hW
  obtain ⟨p, q, hA0, hV, rfl, hfz, hnd⟩ := hW
  have hA : DataW.TrodAll enc Try.prog W 0 (fun _ => true) true Try.f10.params.toList args.toList ds p := hA0
  rw [Try.params10] at hA hval
  obtain ⟨v0, vs0, d0, ds0, p0, q0, hargs, rfl, rfl, h0, r0⟩ := trodAll_cons hA
  obtain ⟨v1, vs1, d1, ds1, p1, q1, rfl, rfl, rfl, h1, r1⟩ := trodAll_cons r0
  obtain ⟨rfl, rfl, rfl⟩ := trodAll_nil r1
  obtain rfl : args = #[v0, v1] := by cases args; simp_all
  obtain ⟨rfl, rfl⟩ := trodVars_none hV
  have k0 := h0
  have lt0 : ∀ x ∈ p0, x.block < W.heap.size := by obtain ⟨m, hm⟩ := k0; exact DataW.trod_lt m _ _ _ hm
  obtain ⟨a0, b0, c0, e0, rfl⟩ := Opn.open_seg Try.underlying71 Try.underlying23 Try.underlying23 (by kernel_rfl) rfl rfl (by kernel_rfl) (by kernel_rfl) (by kernel_rfl) (by kernel_rfl) Try.underlying2 Try.underlying2 Try.underlying2 Try.underlying2 (hval 0 71 v0 rfl rfl) h0
  have k1 := h1
  have lt1 : ∀ x ∈ p1, x.block < W.heap.size := by obtain ⟨m, hm⟩ := k1; exact DataW.trod_lt m _ _ _ hm
  obtain ⟨cx1, cy1, yx1, yy1, m1, rfl, _, _, hyx1, hyy1⟩ := Joins.open_agg2 Try.underlying65 (by kernel_rfl) (by kernel_rfl) (hval 1 65 v1 rfl rfl) h1
  obtain ⟨x1, ex1, _, wx1⟩ := DataW.trod_int Try.underlying2 hyx1
  obtain ⟨y1, ey1, _, wy1⟩ := DataW.trod_int Try.underlying2 hyy1
  simp at ex1 ey1
  subst ex1 ey1
  clear hA0 hval0
  refine (walk a0 b0 c0 e0 x1 y1 W ).mono fun e W' ⟨he, hx⟩ => ?_
  have bel := hx.below
  subst he
  exact ⟨_, rfl, _, _, _, [], _, [], hW', trodAll_mk1 (shut_bool Try.underlying4 _), (trodAll_cons_mk (Below.trod laidOut (by kernel_rfl) (of_decide_eq_true (by kernel_rfl)) k0 bel lt0) (trodAll_cons_mk (Below.trod laidOut (by kernel_rfl) (of_decide_eq_true (by kernel_rfl)) k1 bel lt1) trodAll_mk0)), rfl, bel.frame _, fun h => by cases h⟩

theorem proved : Rows.FnExactPointAtSaid :=
  OpenClaim.holds_of_wide 10 Try.f10 rfl rfl rfl rfl rfl rfl rfl ⟨rfl, rfl, rfl, rfl, rfl⟩ rfl rfl rfl rfl rfl (by kernel_rfl) Try.func10 (by kernel_rfl)
    (of_decide_eq_true (by kernel_rfl)) (by unfold Func.isWrapper; first | (rw [if_pos (by decide +kernel)]; kernel_rfl) | (rw [if_neg (by decide +kernel)]; exact ⟨rfl, rfl⟩))
    (fun os started H enc _ => lifted os started H enc)

end Go.Proofs.Ytmliggimmfbbdaa.fnExactPointAt
