import Derived.Test.YtknelhceaoblhaaGreatRel
import Derived.Laws.EntriesVeiled
import Derived.Deep.LoopGhost
namespace Go.Proofs.YtknelhceaoblhaaGreat.Seg
open Go.ChangeShapes Go.WideShapes Go.ChangeAt Go.RowKit
open Go.Proofs.YtknelhceaoblhaaGreat.Num Go.Proofs.YtknelhceaoblhaaGreat.Kit Go.Proofs.YtknelhceaoblhaaGreat.Pts
set_option linter.unusedVariables false
set_option linter.unusedSimpArgs false
def crB (a b c d p q u v : Int) : Bool := sepB a b c d p q u v && sepB p q u v a b c d
def endB (a b c d p q u v : Int) : Bool := onB a b c d p q || onB a b c d u v
theorem crossProperly_any (a b c d p q u v : Int) (w : World) (ha : Co a) (hb : Co b) (hc : Co c) (hd : Co d) (hp : Co p) (hq : Co q) (hu : Co u) (hv : Co v) :
    Calls Tryz.prog 201 #[Sg a b c d, Sg p q u v] w fun e w' => e = .returned (.bool (crB a b c d p q u v)) ∧ Ext w w' := by
  cases h0 : sepB a b c d p q u v
  · have H := Lib.hid (show crB a b c d p q u v = false by unfold crB; rw [h0]; rfl)
    go_enter Tryz.func201, Tryz.ntmps201
    go_wp2_with (go_at_call 218; refine (separates_any _ _ _ _ _ _ _ _ _ (by omega) (by omega) (by omega) (by omega) (by omega) (by omega) (by omega) (by omega)).mono ?_; rintro e w1 ⟨rfl, hx⟩; obtain ⟨hc, hf⟩ := hx.facts; have hz := hx.size; (try simp at hz); (try (have hz0 : w.heap.size < w1.heap.size := by omega)); (try (have hz1 : w.heap.size + 1 < w1.heap.size := by omega)); (try (have hz2 : w.heap.size + 1 + 1 < w1.heap.size := by omega)); (try (have hz3 : w.heap.size + 1 + 1 + 1 < w1.heap.size := by omega)))
    go_ret
    exact ⟨ret_bool H.out, (by repeat (first | exact Ext.refl _ | assumption | apply Ext.alloc | apply Ext.drew | (refine Ext.trans ?_ (by assumption)) | (refine Ext.setNew ?_ (by simp <;> omega) _)))⟩
  · have H := Lib.hid (show crB a b c d p q u v = sepB p q u v a b c d by unfold crB; rw [h0]; rfl)
    go_enter Tryz.func201, Tryz.ntmps201
    go_wp2_with (go_at_call 218; refine (separates_any _ _ _ _ _ _ _ _ _ (by omega) (by omega) (by omega) (by omega) (by omega) (by omega) (by omega) (by omega)).mono ?_; rintro e w1 ⟨rfl, hx⟩; obtain ⟨hc, hf⟩ := hx.facts; have hz := hx.size; (try simp at hz); (try (have hz0 : w.heap.size < w1.heap.size := by omega)); (try (have hz1 : w.heap.size + 1 < w1.heap.size := by omega)); (try (have hz2 : w.heap.size + 1 + 1 < w1.heap.size := by omega)); (try (have hz3 : w.heap.size + 1 + 1 + 1 < w1.heap.size := by omega)))
    go_ret
    exact ⟨ret_bool H.out, (by repeat (first | exact Ext.refl _ | assumption | apply Ext.alloc | apply Ext.drew | (refine Ext.trans ?_ (by assumption)) | (refine Ext.setNew ?_ (by simp <;> omega) _)))⟩
theorem hasEndOf_any (a b c d p q u v : Int) (w : World) (ha : Co a) (hb : Co b) (hc : Co c) (hd : Co d) (hp : Co p) (hq : Co q) (hu : Co u) (hv : Co v) :
    Calls Tryz.prog 202 #[Sg a b c d, Sg p q u v] w fun e w' => e = .returned (.bool (endB a b c d p q u v)) ∧ Ext w w' := by
  cases h0 : onB a b c d p q
  · have H := Lib.hid (show endB a b c d p q u v = onB a b c d u v by unfold endB; rw [h0]; rfl)
    go_enter Tryz.func202, Tryz.ntmps202
    go_wp2_with (go_at_call 219; refine (contains_any _ _ _ _ _ _ _ (by omega) (by omega) (by omega) (by omega) (by omega) (by omega)).mono ?_; rintro e w1 ⟨rfl, hx⟩; obtain ⟨hc, hf⟩ := hx.facts; have hz := hx.size; (try simp at hz); (try (have hz0 : w.heap.size < w1.heap.size := by omega)); (try (have hz1 : w.heap.size + 1 < w1.heap.size := by omega)); (try (have hz2 : w.heap.size + 1 + 1 < w1.heap.size := by omega)); (try (have hz3 : w.heap.size + 1 + 1 + 1 < w1.heap.size := by omega)))
    go_ret
    exact ⟨ret_bool H.out, (by repeat (first | exact Ext.refl _ | assumption | apply Ext.alloc | apply Ext.drew | (refine Ext.trans ?_ (by assumption)) | (refine Ext.setNew ?_ (by simp <;> omega) _)))⟩
  · have H := Lib.hid (show endB a b c d p q u v = true by unfold endB; rw [h0]; rfl)
    go_enter Tryz.func202, Tryz.ntmps202
    go_wp2_with (go_at_call 219; refine (contains_any _ _ _ _ _ _ _ (by omega) (by omega) (by omega) (by omega) (by omega) (by omega)).mono ?_; rintro e w1 ⟨rfl, hx⟩; obtain ⟨hc, hf⟩ := hx.facts; have hz := hx.size; (try simp at hz); (try (have hz0 : w.heap.size < w1.heap.size := by omega)); (try (have hz1 : w.heap.size + 1 < w1.heap.size := by omega)); (try (have hz2 : w.heap.size + 1 + 1 < w1.heap.size := by omega)); (try (have hz3 : w.heap.size + 1 + 1 + 1 < w1.heap.size := by omega)))
    go_ret
    exact ⟨ret_bool H.out, (by repeat (first | exact Ext.refl _ | assumption | apply Ext.alloc | apply Ext.drew | (refine Ext.trans ?_ (by assumption)) | (refine Ext.setNew ?_ (by simp <;> omega) _)))⟩
theorem hasEndOn_any (a b c d p q u v : Int) (w : World) (ha : Co a) (hb : Co b) (hc : Co c) (hd : Co d) (hp : Co p) (hq : Co q) (hu : Co u) (hv : Co v) :
    Calls Tryz.prog 203 #[Sg a b c d, Sg p q u v] w fun e w' => e = .returned (.bool (endB p q u v a b c d)) ∧ Ext w w' := by
  go_enter Tryz.func203, Tryz.ntmps203
  go_wp2_with (go_at_call 202; refine (hasEndOf_any _ _ _ _ _ _ _ _ _ (by omega) (by omega) (by omega) (by omega) (by omega) (by omega) (by omega) (by omega)).mono ?_; rintro e w1 ⟨rfl, hx⟩; obtain ⟨hc, hf⟩ := hx.facts; have hz := hx.size; (try simp at hz); (try (have hz0 : w.heap.size < w1.heap.size := by omega)); (try (have hz1 : w.heap.size + 1 < w1.heap.size := by omega)); (try (have hz2 : w.heap.size + 1 + 1 < w1.heap.size := by omega)); (try (have hz3 : w.heap.size + 1 + 1 + 1 < w1.heap.size := by omega)))
  go_ret
  exact ⟨ret_bool rfl, (by repeat (first | exact Ext.refl _ | assumption | apply Ext.alloc | apply Ext.drew | (refine Ext.trans ?_ (by assumption)) | (refine Ext.setNew ?_ (by simp <;> omega) _)))⟩
abbrev Fv (f : FuncId) : Value := .func (.func f) #[] #[]
theorem pairRelations_any (w : World) : Calls Tryz.prog 184 #[] w fun e w' => e = .returned (.agg #[.bool true, Fv 201, .bool false, Fv 202, .bool false, Fv 203]) ∧ Ext w w' := by
  go_enter Tryz.func184, Tryz.ntmps184
  go_wp2
  exact bodyPost_ret (v := .agg #[.bool true, Fv 201, .bool false, Fv 202, .bool false, Fv 203]) (by simp [results, Tryz.results184, go_sem]) rfl ⟨rfl, (by repeat (first | exact Ext.refl _ | assumption | apply Ext.alloc | apply Ext.drew | (refine Ext.trans ?_ (by assumption)) | (refine Ext.setNew ?_ (by simp <;> omega) _)))⟩
theorem ix0 (w : World) : (Instr.index 215 (.agg #[.bool true, Fv 201, .bool false, Fv 202, .bool false, Fv 203]) (.int .i64 0)).run Tryz.prog w = .ok (.agg #[.bool true, Fv 201]) w := by
  simp [Instr.index, run_underlying Tryz.underlying215, asIntOf, go_sem]
theorem ix1 (w : World) : (Instr.index 215 (.agg #[.bool true, Fv 201, .bool false, Fv 202, .bool false, Fv 203]) (.int .i64 1)).run Tryz.prog w = .ok (.agg #[.bool false, Fv 202]) w := by
  simp [Instr.index, run_underlying Tryz.underlying215, asIntOf, go_sem]
theorem ix2 (w : World) : (Instr.index 215 (.agg #[.bool true, Fv 201, .bool false, Fv 202, .bool false, Fv 203]) (.int .i64 2)).run Tryz.prog w = .ok (.agg #[.bool false, Fv 203]) w := by
  simp [Instr.index, run_underlying Tryz.underlying215, asIntOf, go_sem]
def hvB (a b c d p q u v : Int) (z : Bool) : Bool := crB a b c d p q u v || (!z && (endB a b c d p q u v || endB p q u v a b c d))
def RelH (w : World) (a b c d p q u v : Int) (z : Bool) (i : Value) (wr : World) : Prop :=
  (i = .int .i64 0 ∨ (i = .int .i64 1 ∧ crB a b c d p q u v = false) ∨ (i = .int .i64 2 ∧ crB a b c d p q u v = false ∧ (z = true ∨ endB a b c d p q u v = false)) ∨
    (i = .int .i64 3 ∧ crB a b c d p q u v = false ∧ (z = true ∨ endB a b c d p q u v = false) ∧ (z = true ∨ endB p q u v a b c d = false))) ∧
  Ext w wr ∧ Box wr w.heap.size [.int .i64 a, .int .i64 b, .int .i64 c, .int .i64 d] ∧ Box wr (w.heap.size + 1) [.int .i64 p, .int .i64 q, .int .i64 u, .int .i64 v]
theorem ret_bool_int {k : IntKind} {a b : Bool} {c d : Int} (h : b = a) (g : d = c) : Ending.returned (.tuple #[.bool a, .int k c]) = .returned (.tuple #[.bool b, .int k d]) := by rw [h, g]
set_option maxHeartbeats 1000000 in
theorem haveCommonPoint_in (a b c d p q u v : Int) (z : Bool) (w : World) (h1 : sgB a b c d = true) (h2 : sgB p q u v = true) :
    Calls Tryz.prog 165 #[Sg a b c d, Sg p q u v, .bool z] w fun e w' => e = .returned (.tuple #[.bool (hvB a b c d p q u v z), .int .i64 0]) ∧ Ext w w' := by
  obtain ⟨⟨ha, hb, hc, hd⟩, _⟩ := sgB_yes h1
  obtain ⟨⟨hp, hq, hu, hv⟩, _⟩ := sgB_yes h2
  go_enter Tryz.func165, Tryz.ntmps165
  go_wp2_with fail
  refine (sgValid_any _ _ _ _ _).mono ?_
  rintro e w1 ⟨rfl, hx⟩
  have B0 := ((Box.new4 (w := w) (n := w.heap.size) (x := .int .i64 a) (y := .int .i64 b) (z := .int .i64 c) (u := .int .i64 d) (t := 144) rfl).alloc _).ext hx
  have B1 := (Box.new4 (w := w.alloc (.cells #[.int .i64 a, .int .i64 b, .int .i64 c, .int .i64 d] 144)) (n := w.heap.size + 1) (x := .int .i64 p) (y := .int .i64 q) (z := .int .i64 u) (u := .int .i64 v) (t := 144) (by simp)).ext hx
  replace hx := ((Ext.refl w).alloc _).alloc _ |>.trans hx
  obtain ⟨⟨i0, i1, i2, i3⟩, _⟩ := B0.four
  obtain ⟨⟨j0, j1, j2, j3⟩, _⟩ := B1.four
  rw [h1]
  go_wp2_with fail
  refine (sgValid_any _ _ _ _ _).mono ?_
  rintro e w2 ⟨rfl, hx2⟩
  replace B0 := B0.ext hx2
  replace B1 := B1.ext hx2
  replace hx := hx.trans hx2
  clear i0 i1 i2 i3 j0 j1 j2 j3 hx2
  rw [h2]
  go_wp2_with fail
  refine (pairRelations_any _).mono ?_
  rintro e w3 ⟨rfl, hx3⟩
  replace B0 := B0.ext hx3
  replace B1 := B1.ext hx3
  replace hx := hx.trans hx3
  clear hx3
  go_wp2_with fail
  go_loopw [19] (fun i wr => RelH w a b c d p q u v z i wr) (fun i _ => 3 - (intOf i).toNat)
  case atStart => exact ⟨.inl rfl, hx, B0, B1⟩
  case round =>
    clear B0 B1 hx
    obtain ⟨hi, hx, B0, B1⟩ := hrel
    obtain ⟨⟨i0, i1, i2, i3⟩, _⟩ := B0.four
    obtain ⟨⟨j0, j1, j2, j3⟩, _⟩ := B1.four
    have l0 := B0.lt
    have l1 := B1.lt
    have HB0 := Lib.hid B0
    have HB1 := Lib.hid B1
    have HX := Lib.hid hx
    clear B0 B1 hx
    rcases hi with rfl | ⟨rfl, g0⟩ | ⟨rfl, g0, g1⟩ | ⟨rfl, g0, g1, g2⟩
    · have hI := ix0
      go_wp2_with fail
      refine (crossProperly_any _ _ _ _ _ _ _ _ _ ha hb hc hd hp hq hu hv).mono ?_
      rintro e w4 ⟨rfl, hx4⟩
      cases g0 : crB a b c d p q u v
      · go_wp2
        go_roundw
        case rel => exact ⟨.inr (.inl ⟨rfl, g0⟩), ((HX.out.alloc _).trans hx4), ((HB0.out.alloc _).ext hx4), ((HB1.out.alloc _).ext hx4)⟩
        case measure => simp [intOf]
      · have H := Lib.hid (show hvB a b c d p q u v z = true by unfold hvB; rw [g0]; rfl)
        go_wp2
        go_ret2
        exact ⟨ret_bool_int H.out rfl, ((HX.out.alloc _).trans hx4)⟩
    · have hI := ix1
      cases z
      · go_wp2_with fail
        refine (hasEndOf_any _ _ _ _ _ _ _ _ _ ha hb hc hd hp hq hu hv).mono ?_
        rintro e w4 ⟨rfl, hx4⟩
        cases g1 : endB a b c d p q u v
        · go_wp2
          go_roundw
          case rel => exact ⟨.inr (.inr (.inl ⟨rfl, g0, .inr g1⟩)), ((HX.out.alloc _).trans hx4), ((HB0.out.alloc _).ext hx4), ((HB1.out.alloc _).ext hx4)⟩
          case measure => simp [intOf]
        · have H := Lib.hid (show hvB a b c d p q u v false = true by unfold hvB; rw [g0, g1]; rfl)
          go_wp2
          go_ret2
          exact ⟨ret_bool_int H.out rfl, ((HX.out.alloc _).trans hx4)⟩
      · go_wp2
        go_roundw
        case rel => exact ⟨.inr (.inr (.inl ⟨rfl, g0, .inl rfl⟩)), (HX.out.alloc _), (HB0.out.alloc _), (HB1.out.alloc _)⟩
        case measure => simp [intOf]
    · have hI := ix2
      cases z
      · go_wp2_with fail
        refine (hasEndOn_any _ _ _ _ _ _ _ _ _ ha hb hc hd hp hq hu hv).mono ?_
        rintro e w4 ⟨rfl, hx4⟩
        cases g2 : endB p q u v a b c d
        · go_wp2
          go_roundw
          case rel => exact ⟨.inr (.inr (.inr ⟨rfl, g0, g1, .inr g2⟩)), ((HX.out.alloc _).trans hx4), ((HB0.out.alloc _).ext hx4), ((HB1.out.alloc _).ext hx4)⟩
          case measure => simp [intOf]
        · have H := Lib.hid (show hvB a b c d p q u v false = true by unfold hvB; rw [g0, g2]; cases endB a b c d p q u v <;> rfl)
          go_wp2
          go_ret2
          exact ⟨ret_bool_int H.out rfl, ((HX.out.alloc _).trans hx4)⟩
      · go_wp2
        go_roundw
        case rel => exact ⟨.inr (.inr (.inr ⟨rfl, g0, g1, .inl rfl⟩)), (HX.out.alloc _), (HB0.out.alloc _), (HB1.out.alloc _)⟩
        case measure => simp [intOf]
    · have H := Lib.hid (show hvB a b c d p q u v z = false by
        unfold hvB; rw [g0]
        rcases g1 with rfl | g1
        · rfl
        · rcases g2 with rfl | g2
          · rfl
          · rw [g1, g2]; cases z <;> rfl)
      clear g0 g1 g2
      go_wp2
      go_ret2
      exact ⟨ret_bool_int H.out rfl, HX.out⟩
end Go.Proofs.YtknelhceaoblhaaGreat.Seg
