/- Right of way (chapter 10, impl): the rules in their order, and the ruling of two boats. -/
import Derived.Test.YtcangdcakgcpaaaRul2
import Derived.Laws.EntriesVeiled
import Derived.Deep.LoopGhost
namespace Go.Proofs.Ytcangdcakgcpaaa.Rul
open Go.ChangeShapes Go.WideShapes Go.ChangeAt Go.RowKit
open Go.Proofs.Ytcangdcakgcpaaa.Num Go.Proofs.Ytcangdcakgcpaaa.Kit Go.Proofs.Ytcangdcakgcpaaa.Pts Go.Proofs.Ytcangdcakgcpaaa.Seg Go.Proofs.Ytcangdcakgcpaaa.Wnd Go.Proofs.Ytcangdcakgcpaaa.Hul
set_option linter.unusedVariables false
set_option linter.unusedSimpArgs false

abbrev rulesV : Value := .agg #[.int .i64 1, Fv 105, .int .i64 5, Fv 106, .int .i64 2, Fv 107, .int .i64 3, Fv 108, .int .i64 4, Fv 109]
theorem rules_any (w : World) : Calls Try.prog 86 #[] w fun e w' => e = .returned rulesV ∧ Ext w w' := by
  go_enter Try.func86, Try.ntmps86
  go_wp2
  exact bodyPost_ret (v := rulesV) (by simp [results, Try.results86, go_sem]) rfl ⟨rfl, (by repeat (first | exact Ext.refl _ | assumption | apply Ext.alloc | apply Ext.drew | (refine Ext.trans ?_ (by assumption)) | (refine Ext.setNew ?_ (by simp <;> omega) _)))⟩
theorem jx0 (w : World) : (Instr.index 125 rulesV (.int .i64 0)).run Try.prog w = .ok (.agg #[.int .i64 1, Fv 105]) w := by
  simp [Instr.index, run_underlying Try.underlying125, asIntOf, go_sem]
theorem jx1 (w : World) : (Instr.index 125 rulesV (.int .i64 1)).run Try.prog w = .ok (.agg #[.int .i64 5, Fv 106]) w := by
  simp [Instr.index, run_underlying Try.underlying125, asIntOf, go_sem]
theorem jx2 (w : World) : (Instr.index 125 rulesV (.int .i64 2)).run Try.prog w = .ok (.agg #[.int .i64 2, Fv 107]) w := by
  simp [Instr.index, run_underlying Try.underlying125, asIntOf, go_sem]
theorem jx3 (w : World) : (Instr.index 125 rulesV (.int .i64 3)).run Try.prog w = .ok (.agg #[.int .i64 3, Fv 108]) w := by
  simp [Instr.index, run_underlying Try.underlying125, asIntOf, go_sem]
theorem jx4 (w : World) : (Instr.index 125 rulesV (.int .i64 4)).run Try.prog w = .ok (.agg #[.int .i64 4, Fv 109]) w := by
  simp [Instr.index, run_underlying Try.underlying125, asIntOf, go_sem]

theorem oo_opp {i j : Int} (hi : i = 0 ∨ i = 1 ∨ i = 2) (hj : j = 0 ∨ j = 1 ∨ j = 2) (g : ((i == 0) || (j == 0)) = false) (h : (i != j) = true) : ooN (i == 1) (j == 1) = (if i = 1 then 1 else 2) ∧ ooN (i == 1) (j == 1) ≠ 0 := by
  rcases hi with rfl | rfl | rfl <;> rcases hj with rfl | rfl | rfl
  all_goals first
  | (exfalso; revert g; decide)
  | (exfalso; revert h; decide)
  | decide
/-- What the loop over the rules keeps: those that were tried do not apply. -/
def RelRu (V : World) (s t : Bool) (i j o : Int) (z : Value) (wr : World) : Prop :=
  (z = .int .i64 0 ∨ (z = .int .i64 1 ∧ (s || t) = false) ∨ (z = .int .i64 2 ∧ (s || t) = false ∧ ((i == 0) || (j == 0)) = false) ∨ (z = .int .i64 3 ∧ (s || t) = false ∧ ((i == 0) || (j == 0)) = false ∧ (i != j) = false) ∨
    (z = .int .i64 4 ∧ (s || t) = false ∧ ((i == 0) || (j == 0)) = false ∧ (i != j) = false ∧ o = 0)) ∧ Ext V wr
theorem ru_done {n : Nat} {w F : World} {tmps : Array Value} {a b : Int} (B : Box F n [.int .i64 a, .int .i64 b]) (hC : Ext w F) (h6 : tmps[6]? = some (.pointer (some ⟨n, 0, none⟩))) (X Y : Int) (hX : X = a) (hY : Y = b) :
    bodyPost Try.prog Try.f58 (fun e w' => e = .returned (Pt X Y) ∧ Ext w w') Exit.ret ⟨tmps, []⟩ F := by
  subst hX; subst hY
  obtain ⟨⟨g0, g1⟩, _⟩ := B.two
  exact bodyPost_ret (v := Pt X Y) (by simp [results, Try.results58, go_sem, h6, g0, g1]) rfl ⟨rfl, hC⟩

set_option maxRecDepth 100000 in
set_option maxHeartbeats 8000000 in
theorem rulingOn_any (x y a b c d n : Int) (s : Bool) (p q u v m : Int) (t : Bool) (w : World) (hw : wdB x y = true) (h : hlB a b c d n = true) (g : hlB p q u v m = true) :
    Calls Try.prog 58 #[Pt x y, Bo a b c d n s, Bo p q u v m t] w fun e w' => e = .returned (Pt (ruK x y a b c d n s p q u v m t) (ruR x y a b c d n s p q u v m t)) ∧ Ext w w' := by
  obtain ⟨x1, y1, _⟩ := wdB_yes hw
  obtain ⟨⟨ha, hb⟩, ⟨hc, hd, _⟩, _⟩ := hlB_yes h
  obtain ⟨⟨hp, hq⟩, ⟨hu, hv, _⟩, _⟩ := hlB_yes g
  have P0 := Lib.hid (fun w => judgeTurning_any x y a b c d n s p q u v m t w)
  have P1 := Lib.hid (fun w => judgeNoTack_any x y a b c d n s p q u v m t w x1 y1 hc hd hu hv)
  have P2 := Lib.hid (fun w => judgeOpposite_any x y a b c d n s p q u v m t w x1 y1 hc hd hu hv)
  have P3 := Lib.hid (fun w => judgeAstern_any x y a b c d n s p q u v m t w h g)
  have P4 := Lib.hid (fun w => judgeWindward_any x y a b c d n s p q u v m t w x1 y1 ha hb hp hq)
  have hO := Lib.hid (ovN_cases (caB a b c d n p q) (caB p q u v m a b))
  have hT := Lib.hid (tk_cases (c * y - d * x))
  have hU := Lib.hid (tk_cases (u * y - v * x))
  unfold ruK ruR
  generalize tkN (c * y - d * x) = i at *
  generalize tkN (u * y - v * x) = j at *
  generalize ovN (caB a b c d n p q) (caB p q u v m a b) = o at *
  generalize wwN (a * x + b * y) (p * x + q * y) = k at *
  clear x1 y1 ha hb hc hd hp hq hu hv hw h g
  obtain ⟨W0, hW0⟩ : ∃ W0, W0 = ((((w.alloc (.cells #[.int .i64 x, .int .i64 y] 25)).alloc (.cells #[.int .i64 a, .int .i64 b, .int .i64 c, .int .i64 d, .int .i64 n, .bool s] 41)).alloc (.cells #[.int .i64 p, .int .i64 q, .int .i64 u, .int .i64 v, .int .i64 m, .bool t] 41)).alloc (.cells #[.int .i64 0, .int .i64 0] 34)).alloc (.cells #[.int .i64 0, .int .i64 5] 34) := ⟨_, rfl⟩
  have hX : Ext w W0 := hW0 ▸ ((((((Ext.refl w).alloc _).alloc _).alloc _).alloc _).alloc _)
  have hs0 : W0.heap.size = w.heap.size + 1 + 1 + 1 + 1 + 1 := by rw [hW0]; simp
  have e00 : ∀ w', (Ext W0) w' → w'.cell? ⟨w.heap.size, 0, none⟩ = some (.int .i64 x) := fun w' h => h.cellOf (by rw [hW0]; exact (((((Ext.refl _).alloc _).alloc _).alloc _).alloc _).cellOf (boxed 0 rfl (by simp)))
  have e01 : ∀ w', (Ext W0) w' → w'.cell? ⟨w.heap.size, 1, none⟩ = some (.int .i64 y) := fun w' h => h.cellOf (by rw [hW0]; exact (((((Ext.refl _).alloc _).alloc _).alloc _).alloc _).cellOf (boxed 1 rfl (by simp)))
  have e10 : ∀ w', (Ext W0) w' → w'.cell? ⟨w.heap.size + 1, 0, none⟩ = some (.int .i64 a) := fun w' h => h.cellOf (by rw [hW0]; exact ((((Ext.refl _).alloc _).alloc _).alloc _).cellOf (boxed 0 rfl (by simp)))
  have e11 : ∀ w', (Ext W0) w' → w'.cell? ⟨w.heap.size + 1, 1, none⟩ = some (.int .i64 b) := fun w' h => h.cellOf (by rw [hW0]; exact ((((Ext.refl _).alloc _).alloc _).alloc _).cellOf (boxed 1 rfl (by simp)))
  have e12 : ∀ w', (Ext W0) w' → w'.cell? ⟨w.heap.size + 1, 2, none⟩ = some (.int .i64 c) := fun w' h => h.cellOf (by rw [hW0]; exact ((((Ext.refl _).alloc _).alloc _).alloc _).cellOf (boxed 2 rfl (by simp)))
  have e13 : ∀ w', (Ext W0) w' → w'.cell? ⟨w.heap.size + 1, 3, none⟩ = some (.int .i64 d) := fun w' h => h.cellOf (by rw [hW0]; exact ((((Ext.refl _).alloc _).alloc _).alloc _).cellOf (boxed 3 rfl (by simp)))
  have e14 : ∀ w', (Ext W0) w' → w'.cell? ⟨w.heap.size + 1, 4, none⟩ = some (.int .i64 n) := fun w' h => h.cellOf (by rw [hW0]; exact ((((Ext.refl _).alloc _).alloc _).alloc _).cellOf (boxed 4 rfl (by simp)))
  have e15 : ∀ w', (Ext W0) w' → w'.cell? ⟨w.heap.size + 1, 5, none⟩ = some (.bool s) := fun w' h => h.cellOf (by rw [hW0]; exact ((((Ext.refl _).alloc _).alloc _).alloc _).cellOf (boxed 5 rfl (by simp)))
  have e20 : ∀ w', (Ext W0) w' → w'.cell? ⟨w.heap.size + 1 + 1, 0, none⟩ = some (.int .i64 p) := fun w' h => h.cellOf (by rw [hW0]; exact (((Ext.refl _).alloc _).alloc _).cellOf (boxed 0 rfl (by simp)))
  have e21 : ∀ w', (Ext W0) w' → w'.cell? ⟨w.heap.size + 1 + 1, 1, none⟩ = some (.int .i64 q) := fun w' h => h.cellOf (by rw [hW0]; exact (((Ext.refl _).alloc _).alloc _).cellOf (boxed 1 rfl (by simp)))
  have e22 : ∀ w', (Ext W0) w' → w'.cell? ⟨w.heap.size + 1 + 1, 2, none⟩ = some (.int .i64 u) := fun w' h => h.cellOf (by rw [hW0]; exact (((Ext.refl _).alloc _).alloc _).cellOf (boxed 2 rfl (by simp)))
  have e23 : ∀ w', (Ext W0) w' → w'.cell? ⟨w.heap.size + 1 + 1, 3, none⟩ = some (.int .i64 v) := fun w' h => h.cellOf (by rw [hW0]; exact (((Ext.refl _).alloc _).alloc _).cellOf (boxed 3 rfl (by simp)))
  have e24 : ∀ w', (Ext W0) w' → w'.cell? ⟨w.heap.size + 1 + 1, 4, none⟩ = some (.int .i64 m) := fun w' h => h.cellOf (by rw [hW0]; exact (((Ext.refl _).alloc _).alloc _).cellOf (boxed 4 rfl (by simp)))
  have e25 : ∀ w', (Ext W0) w' → w'.cell? ⟨w.heap.size + 1 + 1, 5, none⟩ = some (.bool t) := fun w' h => h.cellOf (by rw [hW0]; exact (((Ext.refl _).alloc _).alloc _).cellOf (boxed 5 rfl (by simp)))
  have e30 : ∀ w', (Ext W0) w' → w'.cell? ⟨w.heap.size + 1 + 1 + 1, 0, none⟩ = some (.int .i64 0) := fun w' h => h.cellOf (by rw [hW0]; exact ((Ext.refl _).alloc _).cellOf (boxed 0 rfl (by simp)))
  have e31 : ∀ w', (Ext W0) w' → w'.cell? ⟨w.heap.size + 1 + 1 + 1, 1, none⟩ = some (.int .i64 0) := fun w' h => h.cellOf (by rw [hW0]; exact ((Ext.refl _).alloc _).cellOf (boxed 1 rfl (by simp)))
  have e40 : ∀ w', (Ext W0) w' → w'.cell? ⟨w.heap.size + 1 + 1 + 1 + 1, 0, none⟩ = some (.int .i64 0) := fun w' h => h.cellOf (by rw [hW0]; exact boxed 0 rfl (by simp))
  have e41 : ∀ w', (Ext W0) w' → w'.cell? ⟨w.heap.size + 1 + 1 + 1 + 1, 1, none⟩ = some (.int .i64 5) := fun w' h => h.cellOf (by rw [hW0]; exact boxed 1 rfl (by simp))
  have B4 := Lib.hid (show Box W0 (w.heap.size + 1 + 1 + 1 + 1) [.int .i64 0, .int .i64 5] from hW0 ▸ Box.new2 (by simp))
  have B3 := Lib.hid (show Box W0 (w.heap.size + 1 + 1 + 1) [.int .i64 0, .int .i64 0] from hW0 ▸ (Box.new2 (by simp)).alloc _)
  go_enter Try.func58, Try.ntmps58
  go_wp2
  go_step3
  go_wp2
  go_step3
  go_wp2_with fail
  rw [← hW0]
  clear hW0
  refine (rules_any _).mono ?_
  rintro e w1 ⟨rfl, hz⟩
  replace hz : Ext W0 w1 := hz
  go_wp2_with fail
  go_loopw [14] (fun z wr => RelRu w1 s t i j o z wr) (fun z _ => 5 - (intOf z).toNat)
  case atStart => exact ⟨.inl rfl, Ext.refl _⟩
  case round =>
    obtain ⟨hi, hx⟩ := hrel
    have HX := Lib.hid (hz.trans hx)
    have HX1 := Lib.hid hx
    clear hx
    have f00 := on1 (e00 wr HX.out); have f01 := on1 (e01 wr HX.out)
    have f10 := on1 (e10 wr HX.out); have f11 := on1 (e11 wr HX.out); have f12 := on1 (e12 wr HX.out); have f13 := on1 (e13 wr HX.out); have f14 := on1 (e14 wr HX.out); have f15 := on1 (e15 wr HX.out)
    have f20 := on1 (e20 wr HX.out); have f21 := on1 (e21 wr HX.out); have f22 := on1 (e22 wr HX.out); have f23 := on1 (e23 wr HX.out); have f24 := on1 (e24 wr HX.out); have f25 := on1 (e25 wr HX.out)
    rcases hi with rfl | ⟨rfl, g0⟩ | ⟨rfl, g0, g1⟩ | ⟨rfl, g0, g1, g2⟩ | ⟨rfl, g0, g1, g2, g3⟩
    · have hI := jx0
      have HT := Lib.hid (fun h => rl_turn (s := s) (t := t) (i := i) (j := j) (o := o) (k := k) h)
      generalize ooN s t = K at P0 HT
      cases hA : (s || t)
      · rw [hA] at P0
        go_wp2_with fail
        refine (P0.out _).mono ?_
        rintro e w4 ⟨rfl, hy⟩
        replace HX := Lib.hid (HX1.out.trans ((Ext.refl wr).alloc (.cells #[.int .i64 1, Fv 105] 124) |>.trans hy))
        clear hy f00 f01 f10 f11 f12 f13 f14 f15 f20 f21 f22 f23 f24 f25 hI
        go_wp2
        go_roundw
        case rel => exact ⟨.inr (.inl ⟨rfl, hA⟩), HX.out⟩
        case measure => simp [intOf]
      · rw [hA] at P0
        go_wp2_with fail
        refine (P0.out _).mono ?_
        rintro e w4 ⟨rfl, hy⟩
        have c0 : ∀ v, (wr.alloc (.cells #[.int .i64 1, Fv 105] 124)).cell? ⟨wr.heap.size, 0, none⟩ = some v → w4.cell? ⟨wr.heap.size, 0, none⟩ = some v := fun v h => hy.cellOf h
        replace c0 := c0 _ (boxed 0 rfl rfl)
        replace HX := Lib.hid (hz.trans (HX1.out.trans ((Ext.refl wr).alloc (.cells #[.int .i64 1, Fv 105] 124) |>.trans hy)))
        clear hy f00 f01 f10 f11 f12 f13 f14 f15 f20 f21 f22 f23 f24 f25 hI
        by_cases hk : K = 0
        · have HK := Lib.hid (show rlK s t i j o k = 0 from (HT.out hA).1.trans hk)
          have HR := Lib.hid (show rlR s t i j o k = 5 from (HT.out hA).2.trans (if_pos hk))
          have kz : (K == 0) = true := beq_iff_eq.2 hk
          clear hk
          obtain ⟨⟨r0, r1⟩, r2, r3⟩ := (B3.out.ext HX.out).two
          obtain ⟨⟨q0, q1⟩, q2, q3⟩ := (B4.out.ext HX.out).two
          go_wp2
          exact ru_done (B3.out.ext HX.out).set2 (((hX.trans HX.out).setNew (by simp; omega) _).setNew (by simp; omega) _) rfl _ _ (HK.out) (HR.out)
        · have HK := Lib.hid (show rlK s t i j o k = K from (HT.out hA).1)
          have HR := Lib.hid (show rlR s t i j o k = 1 from (HT.out hA).2.trans (if_neg hk))
          have kz : (K == 0) = false := beq_eq_false_iff_ne.2 hk
          clear hk
          obtain ⟨⟨r0, r1⟩, r2, r3⟩ := (B3.out.ext HX.out).two
          obtain ⟨⟨q0, q1⟩, q2, q3⟩ := (B4.out.ext HX.out).two
          have BR := Lib.hid (fun (K R : Int) => ((B3.out.ext HX.out).away2 (m := w.heap.size + 1 + 1 + 1 + 1) (i := 0) (j := 1) (u := .int .i64 K) (v := .int .i64 R) (by omega)).set2 (u := .int .i64 K) (v := .int .i64 R))
          go_wp2
          exact ru_done (BR.out _ _) (((((hX.trans HX.out).setNew (by simp; omega) _).setNew (by simp; omega) _).setNew (by simp; omega) _).setNew (by simp; omega) _) rfl _ _ (HK.out) (HR.out)
    · have hI := jx1
      have HT := Lib.hid (fun h => rl_none (i := i) (j := j) (o := o) (k := k) g0 h)
      cases hA : ((i == 0) || (j == 0))
      · rw [hA] at P1
        go_wp2_with fail
        refine (P1.out _).mono ?_
        rintro e w4 ⟨rfl, hy⟩
        replace HX := Lib.hid (HX1.out.trans ((Ext.refl wr).alloc (.cells #[.int .i64 5, Fv 106] 124) |>.trans hy))
        clear hy f00 f01 f10 f11 f12 f13 f14 f15 f20 f21 f22 f23 f24 f25 hI
        go_wp2
        go_roundw
        case rel => exact ⟨.inr (.inr (.inl ⟨rfl, g0, hA⟩)), HX.out⟩
        case measure => simp [intOf]
      · rw [hA] at P1
        go_wp2_with fail
        refine (P1.out _).mono ?_
        rintro e w4 ⟨rfl, hy⟩
        replace HX := Lib.hid (hz.trans (HX1.out.trans ((Ext.refl wr).alloc (.cells #[.int .i64 5, Fv 106] 124) |>.trans hy)))
        clear hy f00 f01 f10 f11 f12 f13 f14 f15 f20 f21 f22 f23 f24 f25 hI
        obtain ⟨⟨r0, r1⟩, r2, r3⟩ := (B3.out.ext HX.out).two
        obtain ⟨⟨q0, q1⟩, q2, q3⟩ := (B4.out.ext HX.out).two
        go_wp2
        exact ru_done (B3.out.ext HX.out).set2 (((hX.trans HX.out).setNew (by simp; omega) _).setNew (by simp; omega) _) rfl _ _ ((HT.out hA).1) ((HT.out hA).2)
    · have hI := jx2
      have HT := Lib.hid (fun h => rl_opp (o := o) (k := k) g0 g1 h)
      have HO2 := Lib.hid (fun h => oo_opp hT.out hU.out g1 h)
      generalize ooN (i == 1) (j == 1) = K at P2 HO2
      cases hA : (i != j)
      · rw [hA] at P2
        go_wp2_with fail
        refine (P2.out _).mono ?_
        rintro e w4 ⟨rfl, hy⟩
        replace HX := Lib.hid (HX1.out.trans ((Ext.refl wr).alloc (.cells #[.int .i64 2, Fv 107] 124) |>.trans hy))
        clear hy f00 f01 f10 f11 f12 f13 f14 f15 f20 f21 f22 f23 f24 f25 hI
        go_wp2
        go_roundw
        case rel => exact ⟨.inr (.inr (.inr (.inl ⟨rfl, g0, g1, hA⟩))), HX.out⟩
        case measure => simp [intOf]
      · rw [hA] at P2
        have HK := Lib.hid ((HT.out hA).1.trans (HO2.out hA).1.symm)
        have HR := Lib.hid (HT.out hA).2
        have kz : (K == 0) = false := beq_eq_false_iff_ne.2 (HO2.out hA).2
        go_wp2_with fail
        refine (P2.out _).mono ?_
        rintro e w4 ⟨rfl, hy⟩
        have c0 : w4.cell? ⟨wr.heap.size, 0, none⟩ = some (.int .i64 2) := hy.cellOf (boxed 0 rfl rfl)
        replace HX := Lib.hid (hz.trans (HX1.out.trans ((Ext.refl wr).alloc (.cells #[.int .i64 2, Fv 107] 124) |>.trans hy)))
        clear hy f00 f01 f10 f11 f12 f13 f14 f15 f20 f21 f22 f23 f24 f25 hI
        obtain ⟨⟨r0, r1⟩, r2, r3⟩ := (B3.out.ext HX.out).two
        obtain ⟨⟨q0, q1⟩, q2, q3⟩ := (B4.out.ext HX.out).two
        have BR := Lib.hid (fun (K R : Int) => ((B3.out.ext HX.out).away2 (m := w.heap.size + 1 + 1 + 1 + 1) (i := 0) (j := 1) (u := .int .i64 K) (v := .int .i64 R) (by omega)).set2 (u := .int .i64 K) (v := .int .i64 R))
        go_wp2
        exact ru_done (BR.out _ _) (((((hX.trans HX.out).setNew (by simp; omega) _).setNew (by simp; omega) _).setNew (by simp; omega) _).setNew (by simp; omega) _) rfl _ _ (HK.out) (HR.out)
    · have hI := jx3
      have HA1 := Lib.hid (fun e => rl_astern (k := k) (o := o) g0 g1 g2 e)
      have HA2 := Lib.hid (fun e => rl_ahead (k := k) (o := o) g0 g1 g2 e)
      have HA3 := Lib.hid (fun e => rl_apart (k := k) (o := o) g0 g1 g2 e)
      go_wp2_with fail
      refine (P3.out _).mono ?_
      rintro e w4 ⟨rfl, hy⟩
      have c0 : w4.cell? ⟨wr.heap.size, 0, none⟩ = some (.int .i64 3) := hy.cellOf (boxed 0 rfl rfl)
      have HX2 := Lib.hid (HX1.out.trans ((Ext.refl wr).alloc (.cells #[.int .i64 3, Fv 108] 124) |>.trans hy))
      replace HX := Lib.hid (hz.trans HX2.out)
      clear hy f00 f01 f10 f11 f12 f13 f14 f15 f20 f21 f22 f23 f24 f25 hI
      rcases hO.out with h0 | h0 | h0 | h0
      · have e1 : asK o = 0 := by rw [h0]; rfl
        have e2 : asB o = false := by rw [h0]; rfl
        rw [e1, e2]
        go_wp2
        go_roundw
        case rel => exact ⟨.inr (.inr (.inr (.inr ⟨rfl, g0, g1, g2, h0⟩))), HX2.out⟩
        case measure => simp [intOf]
      · have e1 : asK o = 2 := by rw [h0]; rfl
        have e2 : asB o = true := by rw [h0]; rfl
        rw [e1, e2]
        have HK := Lib.hid (HA1.out h0).1
        have HR := Lib.hid (HA1.out h0).2
        clear e1 e2
        obtain ⟨⟨r0, r1⟩, r2, r3⟩ := (B3.out.ext HX.out).two
        obtain ⟨⟨q0, q1⟩, q2, q3⟩ := (B4.out.ext HX.out).two
        have BR := Lib.hid (fun (K R : Int) => ((B3.out.ext HX.out).away2 (m := w.heap.size + 1 + 1 + 1 + 1) (i := 0) (j := 1) (u := .int .i64 K) (v := .int .i64 R) (by omega)).set2 (u := .int .i64 K) (v := .int .i64 R))
        go_wp2
        exact ru_done (BR.out _ _) (((((hX.trans HX.out).setNew (by simp; omega) _).setNew (by simp; omega) _).setNew (by simp; omega) _).setNew (by simp; omega) _) rfl _ _ (HK.out) (HR.out)
      · have e1 : asK o = 1 := by rw [h0]; rfl
        have e2 : asB o = true := by rw [h0]; rfl
        rw [e1, e2]
        have HK := Lib.hid (HA2.out h0).1
        have HR := Lib.hid (HA2.out h0).2
        clear e1 e2
        obtain ⟨⟨r0, r1⟩, r2, r3⟩ := (B3.out.ext HX.out).two
        obtain ⟨⟨q0, q1⟩, q2, q3⟩ := (B4.out.ext HX.out).two
        have BR := Lib.hid (fun (K R : Int) => ((B3.out.ext HX.out).away2 (m := w.heap.size + 1 + 1 + 1 + 1) (i := 0) (j := 1) (u := .int .i64 K) (v := .int .i64 R) (by omega)).set2 (u := .int .i64 K) (v := .int .i64 R))
        go_wp2
        exact ru_done (BR.out _ _) (((((hX.trans HX.out).setNew (by simp; omega) _).setNew (by simp; omega) _).setNew (by simp; omega) _).setNew (by simp; omega) _) rfl _ _ (HK.out) (HR.out)
      · have e1 : asK o = 0 := by rw [h0]; rfl
        have e2 : asB o = true := by rw [h0]; rfl
        rw [e1, e2]
        have HK := Lib.hid (HA3.out h0).1
        have HR := Lib.hid (HA3.out h0).2
        clear e1 e2
        obtain ⟨⟨r0, r1⟩, r2, r3⟩ := (B3.out.ext HX.out).two
        obtain ⟨⟨q0, q1⟩, q2, q3⟩ := (B4.out.ext HX.out).two
        go_wp2
        exact ru_done (B3.out.ext HX.out).set2 (((hX.trans HX.out).setNew (by simp; omega) _).setNew (by simp; omega) _) rfl _ _ (HK.out) (HR.out)
    · have hI := jx4
      have HT := Lib.hid (rl_wind (k := k) g0 g1 g2 g3)
      go_wp2_with fail
      refine (P4.out _).mono ?_
      rintro e w4 ⟨rfl, hy⟩
      have c0 : w4.cell? ⟨wr.heap.size, 0, none⟩ = some (.int .i64 4) := hy.cellOf (boxed 0 rfl rfl)
      replace HX := Lib.hid (hz.trans (HX1.out.trans ((Ext.refl wr).alloc (.cells #[.int .i64 4, Fv 109] 124) |>.trans hy)))
      clear hy f00 f01 f10 f11 f12 f13 f14 f15 f20 f21 f22 f23 f24 f25 hI
      by_cases hk : k = 0
      · have HK := Lib.hid (HT.out.1.trans hk)
        have HR := Lib.hid (HT.out.2.trans (if_pos hk))
        have kz : (k == 0) = true := beq_iff_eq.2 hk
        clear hk
        obtain ⟨⟨r0, r1⟩, r2, r3⟩ := (B3.out.ext HX.out).two
        obtain ⟨⟨q0, q1⟩, q2, q3⟩ := (B4.out.ext HX.out).two
        go_wp2
        exact ru_done (B3.out.ext HX.out).set2 (((hX.trans HX.out).setNew (by simp; omega) _).setNew (by simp; omega) _) rfl _ _ (HK.out) (HR.out)
      · have HK := Lib.hid HT.out.1
        have HR := Lib.hid (HT.out.2.trans (if_neg hk))
        have kz : (k == 0) = false := beq_eq_false_iff_ne.2 hk
        clear hk
        obtain ⟨⟨r0, r1⟩, r2, r3⟩ := (B3.out.ext HX.out).two
        obtain ⟨⟨q0, q1⟩, q2, q3⟩ := (B4.out.ext HX.out).two
        have BR := Lib.hid (fun (K R : Int) => ((B3.out.ext HX.out).away2 (m := w.heap.size + 1 + 1 + 1 + 1) (i := 0) (j := 1) (u := .int .i64 K) (v := .int .i64 R) (by omega)).set2 (u := .int .i64 K) (v := .int .i64 R))
        go_wp2
        exact ru_done (BR.out _ _) (((((hX.trans HX.out).setNew (by simp; omega) _).setNew (by simp; omega) _).setNew (by simp; omega) _).setNew (by simp; omega) _) rfl _ _ (HK.out) (HR.out)

end Go.Proofs.Ytcangdcakgcpaaa.Rul
