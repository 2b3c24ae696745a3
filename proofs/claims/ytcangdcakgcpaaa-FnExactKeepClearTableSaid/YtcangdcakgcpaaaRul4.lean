/- Right of way (chapter 10): the ruling of the reference, and RuleOn of both. -/
import Derived.Test.YtcangdcakgcpaaaRul3
namespace Go.Proofs.Ytcangdcakgcpaaa.Rul
open Go.ChangeShapes Go.WideShapes Go.ChangeAt Go.RowKit
open Go.Proofs.Ytcangdcakgcpaaa.Num Go.Proofs.Ytcangdcakgcpaaa.Kit Go.Proofs.Ytcangdcakgcpaaa.Pts Go.Proofs.Ytcangdcakgcpaaa.Seg Go.Proofs.Ytcangdcakgcpaaa.Wnd Go.Proofs.Ytcangdcakgcpaaa.Hul
set_option linter.unusedVariables false
set_option linter.unusedSimpArgs false

theorem unclear_any (w : World) : Calls Try.prog 83 #[] w fun e w' => e = .returned (Pt 0 5) ∧ Ext w w' := by
  go_enter Try.func83, Try.ntmps83
  go_wp2
  exact bodyPost_ret (v := Pt 0 5) (by simp [results, Try.results83, go_sem]) rfl ⟨rfl, (by repeat (first | exact Ext.refl _ | assumption | apply Ext.alloc | apply Ext.drew | (refine Ext.trans ?_ (by assumption)) | (refine Ext.setNew ?_ (by simp <;> omega) _)))⟩
theorem rs_done {n : Nat} {w F : World} {tmps : Array Value} {a b : Int} (B : Box F n [.int .i64 a, .int .i64 b]) (hC : Ext w F) (h6 : tmps[6]? = some (.pointer (some ⟨n, 0, none⟩))) (X Y : Int) (hX : X = a) (hY : Y = b) :
    bodyPost Try.prog Try.f56 (fun e w' => e = .returned (Pt X Y) ∧ Ext w w') Exit.ret ⟨tmps, []⟩ F := by
  subst hX; subst hY
  obtain ⟨⟨g0, g1⟩, _⟩ := B.two
  exact bodyPost_ret (v := Pt X Y) (by simp [results, Try.results56, go_sem, h6, g0, g1]) rfl ⟨rfl, hC⟩

set_option maxRecDepth 100000 in
set_option maxHeartbeats 8000000 in
theorem rule_spec (x y a b c d n : Int) (s : Bool) (p q u v m : Int) (t : Bool) (w : World) (hw : wdB x y = true) (h : hlB a b c d n = true) (g : hlB p q u v m = true) :
    Calls Try.prog 56 #[Pt x y, Bo a b c d n s, Bo p q u v m t] w fun e w' => e = .returned (Pt (ruK x y a b c d n s p q u v m t) (ruR x y a b c d n s p q u v m t)) ∧ Ext w w' := by
  obtain ⟨x1, y1, _⟩ := wdB_yes hw
  obtain ⟨⟨ha, hb⟩, ⟨hc, hd, _⟩, _⟩ := hlB_yes h
  obtain ⟨⟨hp, hq⟩, ⟨hu, hv, _⟩, _⟩ := hlB_yes g
  have P1 := Lib.hid (fun w => tackS_any x y c d w x1 y1 hc hd)
  have P2 := Lib.hid (fun w => tackS_any x y u v w x1 y1 hu hv)
  have P3 := Lib.hid (fun w => overlapS_any a b c d n p q u v m w h g)
  have P4 := Lib.hid (fun w => windwardS_any x y a b c d n p q u v m w x1 y1 ha hb hp hq)
  have hO := Lib.hid (ovN_cases (caB a b c d n p q) (caB p q u v m a b))
  have hT := Lib.hid (tk_cases (c * y - d * x))
  have hU := Lib.hid (tk_cases (u * y - v * x))
  unfold ruK ruR
  generalize tkN (c * y - d * x) = i at *
  generalize tkN (u * y - v * x) = j at *
  generalize ovN (caB a b c d n p q) (caB p q u v m a b) = o at *
  generalize wwN (a * x + b * y) (p * x + q * y) = k at *
  clear x1 y1 ha hb hc hd hp hq hu hv hw h g
  obtain ⟨W0, hW0⟩ : ∃ W0, W0 = (((w.alloc (.cells #[.int .i64 x, .int .i64 y] 25)).alloc (.cells #[.int .i64 a, .int .i64 b, .int .i64 c, .int .i64 d, .int .i64 n, .bool s] 41)).alloc (.cells #[.int .i64 p, .int .i64 q, .int .i64 u, .int .i64 v, .int .i64 m, .bool t] 41)).alloc (.cells #[.int .i64 0, .int .i64 0] 34) := ⟨_, rfl⟩
  have hX : Ext w W0 := hW0 ▸ (((((Ext.refl w).alloc _).alloc _).alloc _).alloc _)
  have hs0 : W0.heap.size = w.heap.size + 1 + 1 + 1 + 1 := by rw [hW0]; simp
  have e00 : ∀ w', (Ext W0) w' → w'.cell? ⟨w.heap.size, 0, none⟩ = some (.int .i64 x) := fun w' h => h.cellOf (by rw [hW0]; exact ((((Ext.refl _).alloc _).alloc _).alloc _).cellOf (boxed 0 rfl (by simp)))
  have e01 : ∀ w', (Ext W0) w' → w'.cell? ⟨w.heap.size, 1, none⟩ = some (.int .i64 y) := fun w' h => h.cellOf (by rw [hW0]; exact ((((Ext.refl _).alloc _).alloc _).alloc _).cellOf (boxed 1 rfl (by simp)))
  have e10 : ∀ w', (Ext W0) w' → w'.cell? ⟨w.heap.size + 1, 0, none⟩ = some (.int .i64 a) := fun w' h => h.cellOf (by rw [hW0]; exact (((Ext.refl _).alloc _).alloc _).cellOf (boxed 0 rfl (by simp)))
  have e11 : ∀ w', (Ext W0) w' → w'.cell? ⟨w.heap.size + 1, 1, none⟩ = some (.int .i64 b) := fun w' h => h.cellOf (by rw [hW0]; exact (((Ext.refl _).alloc _).alloc _).cellOf (boxed 1 rfl (by simp)))
  have e12 : ∀ w', (Ext W0) w' → w'.cell? ⟨w.heap.size + 1, 2, none⟩ = some (.int .i64 c) := fun w' h => h.cellOf (by rw [hW0]; exact (((Ext.refl _).alloc _).alloc _).cellOf (boxed 2 rfl (by simp)))
  have e13 : ∀ w', (Ext W0) w' → w'.cell? ⟨w.heap.size + 1, 3, none⟩ = some (.int .i64 d) := fun w' h => h.cellOf (by rw [hW0]; exact (((Ext.refl _).alloc _).alloc _).cellOf (boxed 3 rfl (by simp)))
  have e14 : ∀ w', (Ext W0) w' → w'.cell? ⟨w.heap.size + 1, 4, none⟩ = some (.int .i64 n) := fun w' h => h.cellOf (by rw [hW0]; exact (((Ext.refl _).alloc _).alloc _).cellOf (boxed 4 rfl (by simp)))
  have e15 : ∀ w', (Ext W0) w' → w'.cell? ⟨w.heap.size + 1, 5, none⟩ = some (.bool s) := fun w' h => h.cellOf (by rw [hW0]; exact (((Ext.refl _).alloc _).alloc _).cellOf (boxed 5 rfl (by simp)))
  have e20 : ∀ w', (Ext W0) w' → w'.cell? ⟨w.heap.size + 1 + 1, 0, none⟩ = some (.int .i64 p) := fun w' h => h.cellOf (by rw [hW0]; exact ((Ext.refl _).alloc _).cellOf (boxed 0 rfl (by simp)))
  have e21 : ∀ w', (Ext W0) w' → w'.cell? ⟨w.heap.size + 1 + 1, 1, none⟩ = some (.int .i64 q) := fun w' h => h.cellOf (by rw [hW0]; exact ((Ext.refl _).alloc _).cellOf (boxed 1 rfl (by simp)))
  have e22 : ∀ w', (Ext W0) w' → w'.cell? ⟨w.heap.size + 1 + 1, 2, none⟩ = some (.int .i64 u) := fun w' h => h.cellOf (by rw [hW0]; exact ((Ext.refl _).alloc _).cellOf (boxed 2 rfl (by simp)))
  have e23 : ∀ w', (Ext W0) w' → w'.cell? ⟨w.heap.size + 1 + 1, 3, none⟩ = some (.int .i64 v) := fun w' h => h.cellOf (by rw [hW0]; exact ((Ext.refl _).alloc _).cellOf (boxed 3 rfl (by simp)))
  have e24 : ∀ w', (Ext W0) w' → w'.cell? ⟨w.heap.size + 1 + 1, 4, none⟩ = some (.int .i64 m) := fun w' h => h.cellOf (by rw [hW0]; exact ((Ext.refl _).alloc _).cellOf (boxed 4 rfl (by simp)))
  have e25 : ∀ w', (Ext W0) w' → w'.cell? ⟨w.heap.size + 1 + 1, 5, none⟩ = some (.bool t) := fun w' h => h.cellOf (by rw [hW0]; exact ((Ext.refl _).alloc _).cellOf (boxed 5 rfl (by simp)))
  have e30 : ∀ w', (Ext W0) w' → w'.cell? ⟨w.heap.size + 1 + 1 + 1, 0, none⟩ = some (.int .i64 0) := fun w' h => h.cellOf (by rw [hW0]; exact boxed 0 rfl (by simp))
  have e31 : ∀ w', (Ext W0) w' → w'.cell? ⟨w.heap.size + 1 + 1 + 1, 1, none⟩ = some (.int .i64 0) := fun w' h => h.cellOf (by rw [hW0]; exact boxed 1 rfl (by simp))
  have B3 := Lib.hid (show Box W0 (w.heap.size + 1 + 1 + 1) [.int .i64 0, .int .i64 0] from hW0 ▸ Box.new2 (by simp))
  have HX := Lib.hid (Ext.refl W0)
  cases s <;> cases t
  · go_enter Try.func56, Try.ntmps56
    have f0 := e15 W0 (Ext.refl _)
    have f1 := e25 W0 (Ext.refl _)
    have hr := Ext.refl W0
    go_upto_region 7 with fail
    rw [← hW0]
    clear hW0 f0 f1
    refine wp_region_held_drew (S := (fun w' => Ext W0 w')) (by kernel_rfl) (by (try dsimp only); first | go_keep | exact (Ext.refl _).drew | exact Res.new2.drew | exact Res.new4.drew | exact ResB.drew (by assumption) | exact ResC.drew (by assumption) | assumption | exact Ext.drew (by assumption) | exact Res.drew (by assumption)) (fun hHeld => ?_)
    refine Ord.K 0 29 ?_
    refine Ord.K 1 30 ?_
    refine Ord.K 2 31 ?_
    refine Ord.K 3 32 ?_
    refine Ord.K 5 34 ?_
    refine Ord.K 6 35 ?_
    refine Ord.K 7 36 ?_
    refine Ord.K 8 37 ?_
    (refine wpAnyH_ready (rs := [4]) (by kernel_rfl) (by simp) ?_; refine AllReadyH.cons rfl (fun K hK => ?_) AllReadyH.nil; go_simp; (first | (go_at_call 84; with_reducible refine (P1.out _).mono ?_; rintro e w4 ⟨rfl, hy⟩) | (go_at_call 84; with_reducible refine (P2.out _).mono ?_; rintro e w4 ⟨rfl, hy⟩)); go_wp2_with fail; (refine hK.out _ _ (by first | assumption | exact Ext.trans (by assumption) hy | exact Res.ext (by assumption) hy | exact ResB.ext (by assumption) hy | exact ResC.ext (by assumption) hy | (go_split_ands; (repeat' apply And.intro) <;> exact Ext.cellOf hy (by assumption))) (fun hHeld => ?_)); clear hK K; (try simp only [Act.put, Ord.a, Ord.b, Ord.c]))
    (refine wpAnyH_ready (rs := [9]) (by kernel_rfl) (by simp) ?_; refine AllReadyH.cons rfl (fun K hK => ?_) AllReadyH.nil; go_simp; (first | (go_at_call 84; with_reducible refine (P1.out _).mono ?_; rintro e w4 ⟨rfl, hy⟩) | (go_at_call 84; with_reducible refine (P2.out _).mono ?_; rintro e w4 ⟨rfl, hy⟩)); go_wp2_with fail; (refine hK.out _ _ (by first | assumption | exact Ext.trans (by assumption) hy | exact Res.ext (by assumption) hy | exact ResB.ext (by assumption) hy | exact ResC.ext (by assumption) hy | (go_split_ands; (repeat' apply And.intro) <;> exact Ext.cellOf hy (by assumption))) (fun hHeld => ?_)); clear hK K; (try simp only [Act.put, Ord.a, Ord.b, Ord.c]))
    refine Ord.K 10 7 ?_
    refine Ord.K 11 8 ?_
    refine wpAnyH_done (by kernel_rfl) ?_ _
    replace HX := Lib.hid (show Ext W0 w4 from hHeld)
    clear hHeld hy P1 P2
    cases h1 : (i == 0)
    · cases h2 : (j == 0)
      · have i0 : ¬ i = 0 := by simpa using h1
        have j0 : ¬ j = 0 := by simpa using h2
        have hg : ((i == 0) || (j == 0)) = false := by rw [h1, h2]; rfl
        by_cases hij : i = j
        · have hf : (i != j) = false := by simp [hij]
          have hA0 := Lib.hid (fun e => rl_wind (s := false) (t := false) (k := k) (o := o) rfl hg hf e)
          have hA1 := Lib.hid (fun e => rl_astern (s := false) (t := false) (k := k) (o := o) rfl hg hf e)
          have hA2 := Lib.hid (fun e => rl_ahead (s := false) (t := false) (k := k) (o := o) rfl hg hf e)
          have hA3 := Lib.hid (fun e => rl_apart (s := false) (t := false) (k := k) (o := o) rfl hg hf e)
          clear hg hf
          have hcase : (i == 1) = true ∧ (j == 2) = false ∧ (i == 2) = false ∨ (i == 1) = false ∧ (j == 2) = true ∧ (i == 2) = true ∧ (j == 1) = false := by
            subst hij
            rcases hT.out with rfl | rfl | rfl
            · exact absurd rfl i0
            · exact .inl (by decide)
            · exact .inr (by decide)
          clear i0 j0
          have HIJ := Lib.hid hij
          clear hij
          have g10 := e10 w4 HX.out; have g11 := e11 w4 HX.out; have g12 := e12 w4 HX.out; have g13 := e13 w4 HX.out; have g14 := e14 w4 HX.out
          have g20 := e20 w4 HX.out; have g21 := e21 w4 HX.out; have g22 := e22 w4 HX.out; have g23 := e23 w4 HX.out; have g24 := e24 w4 HX.out
          rcases hcase with ⟨c1, c2, c3⟩ | ⟨c1, c2, c3, c4⟩
          all_goals
            go_wp2_with fail
            refine (P3.out _).mono ?_
            rintro e w5 ⟨rfl, hy⟩
            replace HX := Lib.hid (HX.out.trans hy)
            clear hy g10 g11 g12 g13 g14 g20 g21 g22 g23 g24
            rcases hO.out with h0 | h0 | h0 | h0
            · have o1 : (o == 1) = false := by rw [h0]; rfl
              have o2 : (o == 2) = false := by rw [h0]; rfl
              have o3 : (o == 3) = false := by rw [h0]; rfl
              have HT := Lib.hid (hA0.out h0)
              clear h0
              have g10 := e10 w5 HX.out; have g11 := e11 w5 HX.out; have g12 := e12 w5 HX.out; have g13 := e13 w5 HX.out; have g14 := e14 w5 HX.out
              have g20 := e20 w5 HX.out; have g21 := e21 w5 HX.out; have g22 := e22 w5 HX.out; have g23 := e23 w5 HX.out; have g24 := e24 w5 HX.out
              have g00 := e00 w5 HX.out; have g01 := e01 w5 HX.out
              go_wp2_with fail
              refine (P4.out _).mono ?_
              rintro e w6 ⟨rfl, hy⟩
              replace HX := Lib.hid (HX.out.trans hy)
              clear hy g10 g11 g12 g13 g14 g20 g21 g22 g23 g24 g00 g01
              by_cases hk : k = 0
              · have HK := Lib.hid (HT.out.1.trans hk)
                have HR := Lib.hid (HT.out.2.trans (if_pos hk))
                have kz : (k == 0) = true := beq_iff_eq.2 hk
                clear hk
                go_wp2_with fail
                refine (unclear_any _).mono ?_
                rintro e w9 ⟨rfl, hy⟩
                replace HX := Lib.hid (HX.out.trans hy)
                clear hy
                obtain ⟨⟨r0, r1⟩, r2, r3⟩ := (B3.out.ext HX.out).two
                go_wp2
                exact rs_done (B3.out.ext HX.out).set2 (((hX.trans HX.out).setNew (by simp; omega) _).setNew (by simp; omega) _) rfl _ _ (HK.out) (HR.out)
              · have HK := Lib.hid HT.out.1
                have HR := Lib.hid (HT.out.2.trans (if_neg hk))
                have kz : (k == 0) = false := beq_eq_false_iff_ne.2 hk
                clear hk
                obtain ⟨⟨r0, r1⟩, r2, r3⟩ := (B3.out.ext HX.out).two
                go_wp2
                exact rs_done (B3.out.ext HX.out).set2 (((hX.trans HX.out).setNew (by simp; omega) _).setNew (by simp; omega) _) rfl _ _ (HK.out) (HR.out)
            · have o1 : (o == 1) = true := by rw [h0]; rfl
              have HT := Lib.hid (hA1.out h0)
              clear h0
              obtain ⟨⟨r0, r1⟩, r2, r3⟩ := (B3.out.ext HX.out).two
              go_wp2
              exact rs_done (B3.out.ext HX.out).set2 (((hX.trans HX.out).setNew (by simp; omega) _).setNew (by simp; omega) _) rfl _ _ (HT.out.1) (HT.out.2)
            · have o1 : (o == 1) = false := by rw [h0]; rfl
              have o2 : (o == 2) = true := by rw [h0]; rfl
              have HT := Lib.hid (hA2.out h0)
              clear h0
              obtain ⟨⟨r0, r1⟩, r2, r3⟩ := (B3.out.ext HX.out).two
              go_wp2
              exact rs_done (B3.out.ext HX.out).set2 (((hX.trans HX.out).setNew (by simp; omega) _).setNew (by simp; omega) _) rfl _ _ (HT.out.1) (HT.out.2)
            · have o1 : (o == 1) = false := by rw [h0]; rfl
              have o2 : (o == 2) = false := by rw [h0]; rfl
              have o3 : (o == 3) = true := by rw [h0]; rfl
              have HT := Lib.hid (hA3.out h0)
              clear h0
              go_wp2_with fail
              refine (unclear_any _).mono ?_
              rintro e w9 ⟨rfl, hy⟩
              replace HX := Lib.hid (HX.out.trans hy)
              clear hy
              obtain ⟨⟨r0, r1⟩, r2, r3⟩ := (B3.out.ext HX.out).two
              go_wp2
              exact rs_done (B3.out.ext HX.out).set2 (((hX.trans HX.out).setNew (by simp; omega) _).setNew (by simp; omega) _) rfl _ _ (HT.out.1) (HT.out.2)
        · have hf : (i != j) = true := by simpa using hij
          have HT := Lib.hid (rl_opp (s := false) (t := false) (k := k) (o := o) rfl hg hf)
          clear hg hf
          have hcase : i = 1 ∧ j = 2 ∨ i = 2 ∧ j = 1 := by rcases hT.out with e | e | e <;> rcases hU.out with e2 | e2 | e2 <;> omega
          clear i0 j0 hij
          rcases hcase with ⟨rfl, rfl⟩ | ⟨rfl, rfl⟩
          · have HK := Lib.hid (HT.out.1.trans (if_pos rfl))
            have HR := Lib.hid HT.out.2
            clear HT
            obtain ⟨⟨r0, r1⟩, r2, r3⟩ := (B3.out.ext HX.out).two
            go_wp2
            exact rs_done (B3.out.ext HX.out).set2 (((hX.trans HX.out).setNew (by simp; omega) _).setNew (by simp; omega) _) rfl _ _ (HK.out) (HR.out)
          · have HK := Lib.hid (HT.out.1.trans (if_neg (by decide)))
            have HR := Lib.hid HT.out.2
            clear HT
            obtain ⟨⟨r0, r1⟩, r2, r3⟩ := (B3.out.ext HX.out).two
            go_wp2
            exact rs_done (B3.out.ext HX.out).set2 (((hX.trans HX.out).setNew (by simp; omega) _).setNew (by simp; omega) _) rfl _ _ (HK.out) (HR.out)
      · have HT := Lib.hid (rl_none (s := false) (t := false) (i := i) (j := j) (k := k) (o := o) rfl (by rw [h1, h2]; rfl))
        go_wp2_with fail
        refine (unclear_any _).mono ?_
        rintro e w9 ⟨rfl, hy⟩
        replace HX := Lib.hid (HX.out.trans hy)
        clear hy
        obtain ⟨⟨r0, r1⟩, r2, r3⟩ := (B3.out.ext HX.out).two
        go_wp2
        exact rs_done (B3.out.ext HX.out).set2 (((hX.trans HX.out).setNew (by simp; omega) _).setNew (by simp; omega) _) rfl _ _ (HT.out.1) (HT.out.2)
    · have HT := Lib.hid (rl_none (s := false) (t := false) (i := i) (j := j) (k := k) (o := o) rfl (by rw [h1]; rfl))
      go_wp2_with fail
      refine (unclear_any _).mono ?_
      rintro e w9 ⟨rfl, hy⟩
      replace HX := Lib.hid (HX.out.trans hy)
      clear hy
      obtain ⟨⟨r0, r1⟩, r2, r3⟩ := (B3.out.ext HX.out).two
      go_wp2
      exact rs_done (B3.out.ext HX.out).set2 (((hX.trans HX.out).setNew (by simp; omega) _).setNew (by simp; omega) _) rfl _ _ (HT.out.1) (HT.out.2)
  · have HT := Lib.hid (rl_turn (s := false) (t := true) (i := i) (j := j) (k := k) (o := o) rfl)
    have f0 := e15 W0 (Ext.refl _)
    have f1 := e25 W0 (Ext.refl _)
    go_enter Try.func56, Try.ntmps56
    go_upto_region 1 with fail
    rw [← hW0]
    clear hW0
    obtain ⟨⟨r0, r1⟩, r2, r3⟩ := (B3.out.ext HX.out).two
    go_wp2
    exact rs_done (B3.out.ext HX.out).set2 (((hX.trans HX.out).setNew (by simp; omega) _).setNew (by simp; omega) _) rfl _ _ (HT.out.1) (HT.out.2)
  · have HT := Lib.hid (rl_turn (s := true) (t := false) (i := i) (j := j) (k := k) (o := o) rfl)
    have f0 := e15 W0 (Ext.refl _)
    have f1 := e25 W0 (Ext.refl _)
    go_enter Try.func56, Try.ntmps56
    go_upto_region 1 with fail
    rw [← hW0]
    clear hW0
    obtain ⟨⟨r0, r1⟩, r2, r3⟩ := (B3.out.ext HX.out).two
    go_wp2
    exact rs_done (B3.out.ext HX.out).set2 (((hX.trans HX.out).setNew (by simp; omega) _).setNew (by simp; omega) _) rfl _ _ (HT.out.1) (HT.out.2)
  · have HT := Lib.hid (rl_turn (s := true) (t := true) (i := i) (j := j) (k := k) (o := o) rfl)
    have f0 := e15 W0 (Ext.refl _)
    have f1 := e25 W0 (Ext.refl _)
    go_enter Try.func56, Try.ntmps56
    go_upto_region 1 with fail
    rw [← hW0]
    clear hW0
    go_wp2_with fail
    refine (unclear_any _).mono ?_
    rintro e w9 ⟨rfl, hy⟩
    replace HX := Lib.hid (HX.out.trans hy)
    clear hy
    obtain ⟨⟨r0, r1⟩, r2, r3⟩ := (B3.out.ext HX.out).two
    go_wp2
    exact rs_done (B3.out.ext HX.out).set2 (((hX.trans HX.out).setNew (by simp; omega) _).setNew (by simp; omega) _) rfl _ _ (HT.out.1) (HT.out.2)

end Go.Proofs.Ytcangdcakgcpaaa.Rul
