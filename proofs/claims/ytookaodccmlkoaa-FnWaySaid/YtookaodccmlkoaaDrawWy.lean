/- The contract of DrawWayAcross: a line and two points come out, and nothing that was there is written. -/
import Derived.Test.YtookaodccmlkoaaDrawS
import Derived.Test.YtookaodccmlkoaaRes
import Derived.Test.YtookaodccmlkoaaOrd
import Derived.Deep.DeepCutAuto
namespace Go.Proofs.Ytookaodccmlkoaa.Draw
open Go.ChangeShapes Go.WideShapes Go.ChangeAt Go.RowKit
open Go.Proofs.Ytookaodccmlkoaa.Num Go.Proofs.Ytookaodccmlkoaa.Kit Go.Proofs.Ytookaodccmlkoaa.Pts Go.Proofs.Ytookaodccmlkoaa.Seg
set_option linter.unusedVariables false
set_option linter.unusedSimpArgs false

def SgPts (w : World) (e : Ending) (w' : World) : Prop := ∃ a b c d p q u v : Int, e = .returned (.tuple #[Sg a b c d, Pt p q, Pt u v]) ∧ Ext w w'
theorem wy_done {n m k : Nat} {w F : World} {tmps : Array Value} {a b c d p q u v : Int} (R : Box F n [.int .i64 a, .int .i64 b, .int .i64 c, .int .i64 d]) (T : Box F m [.int .i64 p, .int .i64 q]) (U : Box F k [.int .i64 u, .int .i64 v]) (hC : Ext w F)
    (ha : tmps[2]? = some (.pointer (some ⟨n, 0, none⟩))) (hb : tmps[3]? = some (.pointer (some ⟨m, 0, none⟩))) (hc : tmps[4]? = some (.pointer (some ⟨k, 0, none⟩))) : bodyPost Try.prog Try.f10 (SgPts w) Exit.ret ⟨tmps, []⟩ F := by
  obtain ⟨⟨g0, g1, g2, g3⟩, _⟩ := R.four
  obtain ⟨⟨f0, f1⟩, _⟩ := T.two
  obtain ⟨⟨h0, h1⟩, _⟩ := U.two
  exact bodyPost_ret (v := .tuple #[Sg a b c d, Pt p q, Pt u v]) (by simp [results, Try.results10, go_sem, ha, hb, hc, g0, g1, g2, g3, f0, f1, h0, h1]) rfl ⟨a, b, c, d, p, q, u, v, rfl, hC⟩

set_option maxHeartbeats 4000000 in
theorem drawWayAcross_any (a : Option Addr) (len cap : Nat) (w : World) (hb : Bytes w a len) (hl : len ≤ 100000) : Calls Try.prog 10 #[.slice a len cap] w (SgPts w) := by
  have HB := Lib.hid hb
  clear hb
  obtain ⟨W0, hW0⟩ : ∃ W0, W0 = ((w.alloc (.cells #[.int .i64 0, .int .i64 0, .int .i64 0, .int .i64 0] 27)).alloc (.cells #[.int .i64 0, .int .i64 0] 25)).alloc (.cells #[.int .i64 0, .int .i64 0] 25) := ⟨_, rfl⟩
  have hs0 : W0.heap.size = w.heap.size + 1 + 1 + 1 := by rw [hW0]; simp
  have R := Lib.hid (show Box W0 w.heap.size [.int .i64 0, .int .i64 0, .int .i64 0, .int .i64 0] by rw [hW0]; exact ((Box.new4 rfl).alloc _).alloc _)
  have T := Lib.hid (show Box W0 (w.heap.size + 1) [.int .i64 0, .int .i64 0] by rw [hW0]; exact (Box.new2 (by simp)).alloc _)
  have U := Lib.hid (show Box W0 (w.heap.size + 1 + 1) [.int .i64 0, .int .i64 0] by rw [hW0]; exact (Box.new2 (by simp)))
  have hx : Ext w W0 := hW0 ▸ (((Ext.refl w).alloc _).alloc _).alloc _
  go_enter Try.func10, Try.ntmps10
  go_wp2_with fail
  rw [← hW0]
  clear hW0
  refine (from_any a len cap _ (HB.out.ext hx) hl).mono ?_
  rintro e w1 ⟨B, rfl, hB, hs, hy⟩
  have nR : w.heap.size ≠ B := by omega
  have nT : w.heap.size + 1 ≠ B := by omega
  have nU : w.heap.size + 1 + 1 ≠ B := by omega
  have hB0 : w.heap.size ≤ B := by omega
  replace R := Lib.hid (R.out.ext hy)
  replace T := Lib.hid (T.out.ext hy)
  replace U := Lib.hid (U.out.ext hy)
  replace hx := Lib.hid (hx.trans hy)
  clear hy
  go_wp2_with fail
  refine (drawSAny_any B _ hs).mono ?_
  rintro e w2 ⟨x, y, z, t, rfl, hs2, hc⟩
  have lU := (U.out.chg hc nU).lt
  have gX : B < w2.heap.size := hs2.lt
  have nX : w2.heap.size ≠ B := by omega
  have X := Lib.hid (Box.new4 (w := w2) (n := w2.heap.size) (x := .int .i64 x) (y := .int .i64 y) (z := .int .i64 z) (u := .int .i64 t) (t := 59) rfl)
  replace R := Lib.hid ((R.out.chg hc nR).alloc (.cells #[.int .i64 x, .int .i64 y, .int .i64 z, .int .i64 t] 59))
  replace T := Lib.hid ((T.out.chg hc nT).alloc (.cells #[.int .i64 x, .int .i64 y, .int .i64 z, .int .i64 t] 59))
  replace U := Lib.hid ((U.out.chg hc nU).alloc (.cells #[.int .i64 x, .int .i64 y, .int .i64 z, .int .i64 t] 59))
  replace hx := Lib.hid ((hc.ext hx.out hB0).alloc (.cells #[.int .i64 x, .int .i64 y, .int .i64 z, .int .i64 t] 59))
  clear hc hs
  go_wp2_with fail
  refine (drawAny_any B _ (by repeat (first | with_reducible assumption | with_reducible apply Src.alloc | with_reducible apply Src.drew | with_reducible apply Src.drewN))).mono ?_
  rintro e w3 ⟨p, q, rfl, -, -, hs3, hc⟩
  replace R := Lib.hid (R.out.chg hc nR)
  replace T := Lib.hid (T.out.chg hc nT)
  replace U := Lib.hid (U.out.chg hc nU)
  replace X := Lib.hid (X.out.chg hc nX)
  replace hx := Lib.hid (hc.ext hx.out hB0)
  clear hc hs2
  go_wp2_with fail
  refine (drawAny_any B _ hs3).mono ?_
  rintro e w4 ⟨u, v, rfl, -, -, hs4, hc⟩
  have lX := (X.out.chg hc nX).lt
  have gP : B < w4.heap.size := hs4.lt
  have nP : w4.heap.size ≠ B := by omega
  have nQ : w4.heap.size + 1 ≠ B := by omega
  have P := Lib.hid ((Box.new2 (w := w4) (n := w4.heap.size) (x := .int .i64 p) (y := .int .i64 q) (t := 25) rfl).alloc (.cells #[.int .i64 u, .int .i64 v] 25))
  have Q := Lib.hid (Box.new2 (w := w4.alloc (.cells #[.int .i64 p, .int .i64 q] 25)) (n := w4.heap.size + 1) (x := .int .i64 u) (y := .int .i64 v) (t := 25) (by simp))
  have hy := ((Ext.refl w4).alloc (.cells #[.int .i64 p, .int .i64 q] 25)).alloc (.cells #[.int .i64 u, .int .i64 v] 25)
  replace R := Lib.hid ((R.out.chg hc nR).ext hy)
  replace T := Lib.hid ((T.out.chg hc nT).ext hy)
  replace U := Lib.hid ((U.out.chg hc nU).ext hy)
  replace X := Lib.hid ((X.out.chg hc nX).ext hy)
  replace hx := Lib.hid ((hc.ext hx.out hB0).trans hy)
  clear hc hs3 hy
  go_wp2_with fail
  refine (next_pos B _ _ (by repeat (first | with_reducible assumption | with_reducible apply Src.alloc | with_reducible apply Src.drew | with_reducible apply Src.drewN)) (by omega)).mono ?_
  rintro e w5 ⟨r1, rfl, r10, r11, hs5, hc⟩
  replace R := Lib.hid (R.out.chg hc nR)
  replace T := Lib.hid (T.out.chg hc nT)
  replace U := Lib.hid (U.out.chg hc nU)
  replace X := Lib.hid (X.out.chg hc nX)
  replace P := Lib.hid (P.out.chg hc nP)
  replace Q := Lib.hid (Q.out.chg hc nQ)
  replace hx := Lib.hid (hc.ext hx.out hB0)
  clear hc hs4
  have hord : w.heap.size + 1 + 1 < w2.heap.size ∧ w2.heap.size < w4.heap.size := by omega
  by_cases h1 : r1 = 0
  · have t1 : (r1 == 0) = true := beq_iff_eq.2 h1
    clear h1
    obtain ⟨⟨x0, x1, x2, x3⟩, z0, z1, z2, z3⟩ := X.out.four
    obtain ⟨⟨y0, y1⟩, q0, q1⟩ := P.out.two
    have hs5' := hs5
    go_wp2_with fail
    obtain ⟨w5', hw5⟩ : ∃ w5', w5' = (w5.setCell ⟨w4.heap.size, 0, none⟩ (.int .i64 x)).setCell ⟨w4.heap.size, 1, none⟩ (.int .i64 y) := ⟨_, rfl⟩
    rw [← hw5]
    replace R := Lib.hid (show Box w5' _ _ from hw5 ▸ R.out.away2 (by omega))
    replace T := Lib.hid (show Box w5' _ _ from hw5 ▸ T.out.away2 (by omega))
    replace U := Lib.hid (show Box w5' _ _ from hw5 ▸ U.out.away2 (by omega))
    replace X := Lib.hid (show Box w5' _ _ from hw5 ▸ X.out.away2 (by omega))
    replace Q := Lib.hid (show Box w5' _ _ from hw5 ▸ Q.out.away2 (by omega))
    replace P := Lib.hid (show Box w5' _ _ from hw5 ▸ P.out.set2)
    replace hx := Lib.hid (show Ext w w5' from hw5 ▸ (hx.out.setNew (by simp; omega) _).setNew (by simp; omega) _)
    replace hs5 : Src w5' B := hw5 ▸ (hs5.setCell (by simp; omega) _).setCell (by simp; omega) _
    clear x0 x1 x2 x3 z0 z1 z2 z3 y0 y1 q0 q1 hw5
    refine (next_pos B _ _ hs5 (by omega)).mono ?_
    rintro e w6 ⟨r2, rfl, r20, r21, hs6, hc⟩
    replace R := Lib.hid (R.out.chg hc nR)
    replace T := Lib.hid (T.out.chg hc nT)
    replace U := Lib.hid (U.out.chg hc nU)
    replace X := Lib.hid (X.out.chg hc nX)
    replace P := Lib.hid (P.out.chg hc nP)
    replace Q := Lib.hid (Q.out.chg hc nQ)
    replace hx := Lib.hid (hc.ext hx.out hB0)
    clear hc hs5 hs5'
    by_cases h2 : r2 = 0
    · have t2 : (r2 == 0) = true := beq_iff_eq.2 h2
      clear h2
      go_upto_region 7 with fail
      obtain ⟨⟨v0, v1⟩, u0, u1⟩ := Q.out.two
      have S0 : ResC w6 (w4.heap.size + 1) 2 w6 := ResC.of2 Q.out
      have e0 : ∀ w', ResC w6 (w4.heap.size + 1) 2 w' → w'.cell? ⟨w4.heap.size, 0, none⟩ = some _ := fun w' h => h.cell (by simp) P.out.two.1.1
      have e1 : ∀ w', ResC w6 (w4.heap.size + 1) 2 w' → w'.cell? ⟨w4.heap.size, 1, none⟩ = some _ := fun w' h => h.cell (by simp) P.out.two.1.2
      clear u0 u1 v0 v1
      refine wp_region_held_drew (S := (ResC w6 (w4.heap.size + 1) 2)) (by kernel_rfl) (by (try dsimp only); first | go_keep | exact (Ext.refl _).drew | exact Res.new2.drew | exact Res.new4.drew | exact ResB.drew (by assumption) | exact ResC.drew (by assumption) | assumption | exact Ext.drew (by assumption) | exact Res.drew (by assumption)) (fun hHeld => ?_)
      generalize w6.drew = wd at hHeld ⊢
      (refine Ord.takeH 0 25 (v := ?_) rfl rfl (by kernel_rfl) (by kernel_rfl) (by kernel_rfl) (fun _ _ _ h => h) (by rfl) ?_ (by assumption) ?_; rotate_left; (intro w hSw; (try dsimp only at hSw); go_simp; (first | done | with_reducible rfl)); (try simp only [Act.put, List.setIfInBounds_toArray, List.set_cons_zero, List.set_cons_succ]))
      (refine Ord.takeH 1 26 (v := ?_) rfl rfl (by kernel_rfl) (by kernel_rfl) (by kernel_rfl) (fun _ _ _ h => h) (by rfl) ?_ (by assumption) ?_; rotate_left; (intro w hSw; (try dsimp only at hSw); go_simp; (first | done | with_reducible rfl)); (try simp only [Act.put, List.setIfInBounds_toArray, List.set_cons_zero, List.set_cons_succ]))
      (refine Ord.takeH 2 27 (v := ?_) rfl rfl (by kernel_rfl) (by kernel_rfl) (by kernel_rfl) (fun _ _ _ h => h) (by rfl) ?_ (by assumption) ?_; rotate_left; (intro w hSw; (try dsimp only at hSw); go_simp; (first | done | with_reducible rfl)); (try simp only [Act.put, List.setIfInBounds_toArray, List.set_cons_zero, List.set_cons_succ]))
      (refine Ord.takeH 3 28 (v := ?_) rfl rfl (by kernel_rfl) (by kernel_rfl) (by kernel_rfl) (fun _ _ _ h => h) (by rfl) ?_ (by assumption) ?_; rotate_left; (intro w hSw; (try dsimp only at hSw); go_simp; (first | done | with_reducible rfl)); (try simp only [Act.put, List.setIfInBounds_toArray, List.set_cons_zero, List.set_cons_succ]))
      (refine Ord.takeH 4 29 (v := ?_) rfl rfl (by kernel_rfl) (by kernel_rfl) (by kernel_rfl) (fun _ _ _ h => h) (by rfl) ?_ (by assumption) ?_; rotate_left; (intro w hSw; (try dsimp only at hSw); go_simp; (first | done | with_reducible rfl)); (try simp only [Act.put, List.setIfInBounds_toArray, List.set_cons_zero, List.set_cons_succ]))
      (refine Ord.takeH 5 30 (v := ?_) rfl rfl (by kernel_rfl) (by kernel_rfl) (by kernel_rfl) (fun _ _ _ h => h) (by rfl) ?_ (by assumption) ?_; rotate_left; (intro w hSw; (try dsimp only at hSw); go_simp; (first | done | with_reducible rfl)); (try simp only [Act.put, List.setIfInBounds_toArray, List.set_cons_zero, List.set_cons_succ]))
      (refine wpAnyH_ready (rs := [6]) (by kernel_rfl) (by simp) ?_; refine AllReadyH.cons rfl (fun K hK => ?_) AllReadyH.nil; go_simp; (go_at_call 42; refine (sign_any _ _).mono ?_; rintro e w7 ⟨rfl, rfl⟩); go_wp2_with fail; (refine hK.out _ _ (by first | assumption | exact Ext.trans (by assumption) hy | exact Res.ext (by assumption) hy | exact ResB.ext (by assumption) hy | exact ResC.ext (by assumption) hy | (go_split_ands; (repeat' apply And.intro) <;> exact Ext.cellOf hy (by assumption))) (fun hHeld => ?_)); clear hK K; (try simp only [Act.put, List.setIfInBounds_toArray, List.set_cons_zero, List.set_cons_succ]))
      (refine Ord.takeH 7 32 (v := ?_) rfl rfl (by kernel_rfl) (by kernel_rfl) (by kernel_rfl) (fun _ _ _ h => h) (by rfl) ?_ (by assumption) ?_; rotate_left; (intro w hSw; (try dsimp only at hSw); go_simp; (first | done | with_reducible rfl)); (try simp only [Act.put, List.setIfInBounds_toArray, List.set_cons_zero, List.set_cons_succ]))
      (refine Ord.takeH 8 33 (v := ?_) rfl rfl (by kernel_rfl) (by kernel_rfl) (by kernel_rfl) (fun _ _ _ h => h) (by rfl) ?_ (by assumption) ?_; rotate_left; (intro w hSw; (try dsimp only at hSw); go_simp; (first | done | with_reducible rfl)); (try simp only [Act.put, List.setIfInBounds_toArray, List.set_cons_zero, List.set_cons_succ]))
      (refine Ord.takeH 9 34 (v := ?_) rfl rfl (by kernel_rfl) (by kernel_rfl) (by kernel_rfl) (fun _ _ _ h => h) (by rfl) ?_ (by assumption) ?_; rotate_left; (intro w hSw; (try dsimp only at hSw); go_simp; (first | done | with_reducible rfl)); (try simp only [Act.put, List.setIfInBounds_toArray, List.set_cons_zero, List.set_cons_succ]))
      ((first | ((first | refine Exists.elim (Res.two hHeld) (fun rx rh => ?_) | refine Exists.elim (ResC.two hHeld) (fun rx rh => ?_) | refine Exists.elim (Res.two hHeld.1) (fun rx rh => ?_)); refine Exists.elim rh (fun ry rb => ?_); have r0 := rb.two.1.1; have r1 := rb.two.1.2; have r2 := rb.two.2.1; have r3 := rb.two.2.2; clear rh) | ((first | refine Exists.elim (Res.four hHeld) (fun rx rh => ?_) | refine Exists.elim (Res.four hHeld.1) (fun rx rh => ?_)); refine Exists.elim rh (fun ry rh => ?_); refine Exists.elim rh (fun rz rh => ?_); refine Exists.elim rh (fun ru rb => ?_); have r0 := rb.four.1.1; have r1 := rb.four.1.2.1; have r2 := rb.four.1.2.2.1; have r3 := rb.four.1.2.2.2; have r4 := rb.four.2.1; have r5 := rb.four.2.2.1; have r6 := rb.four.2.2.2.1; have r7 := rb.four.2.2.2.2; clear rh) | (refine Exists.elim (Res.three hHeld) (fun rx rh => ?_); refine Exists.elim rh (fun ry rh => ?_); refine Exists.elim rh (fun rz rb => ?_); have r0 := rb.three'.1.1; have r1 := rb.three'.1.2.1; have r2 := rb.three'.1.2.2; have r3 := rb.three'.2.1; have r4 := rb.three'.2.2.1; have r5 := rb.three'.2.2.2; clear rh; (try simp only [World.cell?_drew, World.frozen?_drew] at r0 r1 r2 r3 r4 r5)) | (refine Exists.elim (Res.five hHeld) (fun rx rh => ?_); refine Exists.elim rh (fun ry rh => ?_); refine Exists.elim rh (fun rz rh => ?_); refine Exists.elim rh (fun ru rh => ?_); refine Exists.elim rh (fun rt rb => ?_); have r0 := rb.five.1.1; have r1 := rb.five.1.2.1; have r2 := rb.five.1.2.2.1; have r3 := rb.five.1.2.2.2.1; have r4 := rb.five.1.2.2.2.2; have r5 := rb.five.2.1; have r6 := rb.five.2.2.1; have r7 := rb.five.2.2.2.1; have r8 := rb.five.2.2.2.2.1; have r9 := rb.five.2.2.2.2.2; clear rh; (try simp only [World.cell?_drew, World.frozen?_drew] at r0 r1 r2 r3 r4 r5 r6 r7 r8 r9)) | (refine Exists.elim (SD.one hHeld) (fun rx rh => ?_); have r0 := rh.1; have r1 := rh.2; clear rh)); refine wpAnyH_ready (rs := [10]) (by kernel_rfl) (by simp) ?_; refine AllReadyH.cons rfl (fun K hK => ?_) AllReadyH.nil; go_simp; (refine hK.out _ _ (by first | with_reducible exact SD.set hHeld _ | with_reducible exact Res.set (Res.set hHeld _ _) _ _ | with_reducible exact ResB.set (ResB.set hHeld _ _) _ _ | with_reducible exact ResC.set (ResC.set hHeld _ _) _ _ | with_reducible exact Res.set (Res.set (Res.set (Res.set hHeld _ _) _ _) _ _) _ _ | with_reducible exact Res.set (Res.set (Res.set hHeld _ _) _ _) _ _ | with_reducible exact Res.set (Res.set (Res.set (Res.set (Res.set hHeld _ _) _ _) _ _) _ _) _ _) (fun hHeld => ?_)); clear hK K; (try simp only [Act.put, List.setIfInBounds_toArray, List.set_cons_zero, List.set_cons_succ]))
      refine wpAnyH_done (by kernel_rfl) ?_ _
      replace R := Lib.hid (R.out.chg hHeld.1 (by simp <;> omega))
      replace T := Lib.hid (T.out.chg hHeld.1 (by simp <;> omega))
      replace U := Lib.hid (U.out.chg hHeld.1 (by simp <;> omega))
      replace X := Lib.hid (X.out.chg hHeld.1 (by simp <;> omega))
      replace P := Lib.hid (P.out.chg hHeld.1 (by simp <;> omega))
      replace Q := Lib.hid (rb.set2 (u := .int .i64 x) (v := .int .i64 (IntKind.i64.wrap (y - IntKind.i64.wrap (2 * sgn y)))))
      replace hx := Lib.hid (hHeld.1.ext hx.out (by omega))
      clear hHeld rb r0 r1 r2 r3 e0 e1 S0
      generalize World.setCell _ _ _ = w8 at *
      obtain ⟨⟨k0, k1, k2, k3⟩, l0, l1, l2, l3⟩ := R.out.four
      obtain ⟨⟨m0, m1⟩, o0, o1⟩ := T.out.two
      obtain ⟨⟨n0, n1⟩, n2, n3⟩ := U.out.two
      obtain ⟨⟨x0, x1, x2, x3⟩, z0, z1, z2, z3⟩ := X.out.four
      obtain ⟨⟨y0, y1⟩, q0, q1⟩ := P.out.two
      obtain ⟨⟨v0, v1⟩, u0, u1⟩ := Q.out.two
      have hxx := hx.out
      go_wp2_with fail
      go_region
      all_goals
        go_wp2
        exact wy_done (n := w.heap.size) (m := w.heap.size + 1) (k := w.heap.size + 1 + 1) (Box.away2 (Box.away2 (Box.set4 R.out) (by omega)) (by omega)).drew (Box.away2 (Box.set2 (Box.away4 T.out (by omega))) (by omega)).drew (Box.set2 (Box.away2 (Box.away4 U.out (by omega)) (by omega))).drew (by repeat (first | with_reducible assumption | with_reducible apply Ext.alloc | with_reducible apply Ext.drew | (with_reducible refine Ext.setNew ?_ (by simp <;> omega) _))) rfl rfl rfl
    · have t2 : (r2 == 0) = false := beq_eq_false_iff_ne.2 h2
      clear h2
      obtain ⟨⟨k0, k1, k2, k3⟩, l0, l1, l2, l3⟩ := R.out.four
      obtain ⟨⟨m0, m1⟩, o0, o1⟩ := T.out.two
      obtain ⟨⟨n0, n1⟩, n2, n3⟩ := U.out.two
      obtain ⟨⟨x0, x1, x2, x3⟩, z0, z1, z2, z3⟩ := X.out.four
      obtain ⟨⟨y0, y1⟩, q0, q1⟩ := P.out.two
      obtain ⟨⟨v0, v1⟩, u0, u1⟩ := Q.out.two
      have hxx := hx.out
      go_wp2_with fail
      go_region
      all_goals
        go_wp2
        exact wy_done (n := w.heap.size) (m := w.heap.size + 1) (k := w.heap.size + 1 + 1) (Box.away2 (Box.away2 (Box.set4 R.out) (by omega)) (by omega)).drew (Box.away2 (Box.set2 (Box.away4 T.out (by omega))) (by omega)).drew (Box.set2 (Box.away2 (Box.away4 U.out (by omega)) (by omega))).drew (by repeat (first | with_reducible assumption | with_reducible apply Ext.alloc | with_reducible apply Ext.drew | (with_reducible refine Ext.setNew ?_ (by simp <;> omega) _))) rfl rfl rfl
  · have t1 : (r1 == 0) = false := beq_eq_false_iff_ne.2 h1
    clear h1
    go_wp2_with fail
    refine (next_pos B _ _ hs5 (by omega)).mono ?_
    rintro e w6 ⟨r2, rfl, r20, r21, hs6, hc⟩
    replace R := Lib.hid (R.out.chg hc nR)
    replace T := Lib.hid (T.out.chg hc nT)
    replace U := Lib.hid (U.out.chg hc nU)
    replace X := Lib.hid (X.out.chg hc nX)
    replace P := Lib.hid (P.out.chg hc nP)
    replace Q := Lib.hid (Q.out.chg hc nQ)
    replace hx := Lib.hid (hc.ext hx.out hB0)
    clear hc hs5
    by_cases h2 : r2 = 0
    · have t2 : (r2 == 0) = true := beq_iff_eq.2 h2
      clear h2
      go_upto_region 7 with fail
      obtain ⟨⟨v0, v1⟩, u0, u1⟩ := Q.out.two
      have S0 : ResC w6 (w4.heap.size + 1) 2 w6 := ResC.of2 Q.out
      have e0 : ∀ w', ResC w6 (w4.heap.size + 1) 2 w' → w'.cell? ⟨w4.heap.size, 0, none⟩ = some _ := fun w' h => h.cell (by simp) P.out.two.1.1
      have e1 : ∀ w', ResC w6 (w4.heap.size + 1) 2 w' → w'.cell? ⟨w4.heap.size, 1, none⟩ = some _ := fun w' h => h.cell (by simp) P.out.two.1.2
      clear u0 u1 v0 v1
      refine wp_region_held_drew (S := (ResC w6 (w4.heap.size + 1) 2)) (by kernel_rfl) (by (try dsimp only); first | go_keep | exact (Ext.refl _).drew | exact Res.new2.drew | exact Res.new4.drew | exact ResB.drew (by assumption) | exact ResC.drew (by assumption) | assumption | exact Ext.drew (by assumption) | exact Res.drew (by assumption)) (fun hHeld => ?_)
      generalize w6.drew = wd at hHeld ⊢
      (refine Ord.takeH 0 25 (v := ?_) rfl rfl (by kernel_rfl) (by kernel_rfl) (by kernel_rfl) (fun _ _ _ h => h) (by rfl) ?_ (by assumption) ?_; rotate_left; (intro w hSw; (try dsimp only at hSw); go_simp; (first | done | with_reducible rfl)); (try simp only [Act.put, List.setIfInBounds_toArray, List.set_cons_zero, List.set_cons_succ]))
      (refine Ord.takeH 1 26 (v := ?_) rfl rfl (by kernel_rfl) (by kernel_rfl) (by kernel_rfl) (fun _ _ _ h => h) (by rfl) ?_ (by assumption) ?_; rotate_left; (intro w hSw; (try dsimp only at hSw); go_simp; (first | done | with_reducible rfl)); (try simp only [Act.put, List.setIfInBounds_toArray, List.set_cons_zero, List.set_cons_succ]))
      (refine Ord.takeH 2 27 (v := ?_) rfl rfl (by kernel_rfl) (by kernel_rfl) (by kernel_rfl) (fun _ _ _ h => h) (by rfl) ?_ (by assumption) ?_; rotate_left; (intro w hSw; (try dsimp only at hSw); go_simp; (first | done | with_reducible rfl)); (try simp only [Act.put, List.setIfInBounds_toArray, List.set_cons_zero, List.set_cons_succ]))
      (refine Ord.takeH 3 28 (v := ?_) rfl rfl (by kernel_rfl) (by kernel_rfl) (by kernel_rfl) (fun _ _ _ h => h) (by rfl) ?_ (by assumption) ?_; rotate_left; (intro w hSw; (try dsimp only at hSw); go_simp; (first | done | with_reducible rfl)); (try simp only [Act.put, List.setIfInBounds_toArray, List.set_cons_zero, List.set_cons_succ]))
      (refine Ord.takeH 4 29 (v := ?_) rfl rfl (by kernel_rfl) (by kernel_rfl) (by kernel_rfl) (fun _ _ _ h => h) (by rfl) ?_ (by assumption) ?_; rotate_left; (intro w hSw; (try dsimp only at hSw); go_simp; (first | done | with_reducible rfl)); (try simp only [Act.put, List.setIfInBounds_toArray, List.set_cons_zero, List.set_cons_succ]))
      (refine Ord.takeH 5 30 (v := ?_) rfl rfl (by kernel_rfl) (by kernel_rfl) (by kernel_rfl) (fun _ _ _ h => h) (by rfl) ?_ (by assumption) ?_; rotate_left; (intro w hSw; (try dsimp only at hSw); go_simp; (first | done | with_reducible rfl)); (try simp only [Act.put, List.setIfInBounds_toArray, List.set_cons_zero, List.set_cons_succ]))
      (refine wpAnyH_ready (rs := [6]) (by kernel_rfl) (by simp) ?_; refine AllReadyH.cons rfl (fun K hK => ?_) AllReadyH.nil; go_simp; (go_at_call 42; refine (sign_any _ _).mono ?_; rintro e w7 ⟨rfl, rfl⟩); go_wp2_with fail; (refine hK.out _ _ (by first | assumption | exact Ext.trans (by assumption) hy | exact Res.ext (by assumption) hy | exact ResB.ext (by assumption) hy | exact ResC.ext (by assumption) hy | (go_split_ands; (repeat' apply And.intro) <;> exact Ext.cellOf hy (by assumption))) (fun hHeld => ?_)); clear hK K; (try simp only [Act.put, List.setIfInBounds_toArray, List.set_cons_zero, List.set_cons_succ]))
      (refine Ord.takeH 7 32 (v := ?_) rfl rfl (by kernel_rfl) (by kernel_rfl) (by kernel_rfl) (fun _ _ _ h => h) (by rfl) ?_ (by assumption) ?_; rotate_left; (intro w hSw; (try dsimp only at hSw); go_simp; (first | done | with_reducible rfl)); (try simp only [Act.put, List.setIfInBounds_toArray, List.set_cons_zero, List.set_cons_succ]))
      (refine Ord.takeH 8 33 (v := ?_) rfl rfl (by kernel_rfl) (by kernel_rfl) (by kernel_rfl) (fun _ _ _ h => h) (by rfl) ?_ (by assumption) ?_; rotate_left; (intro w hSw; (try dsimp only at hSw); go_simp; (first | done | with_reducible rfl)); (try simp only [Act.put, List.setIfInBounds_toArray, List.set_cons_zero, List.set_cons_succ]))
      (refine Ord.takeH 9 34 (v := ?_) rfl rfl (by kernel_rfl) (by kernel_rfl) (by kernel_rfl) (fun _ _ _ h => h) (by rfl) ?_ (by assumption) ?_; rotate_left; (intro w hSw; (try dsimp only at hSw); go_simp; (first | done | with_reducible rfl)); (try simp only [Act.put, List.setIfInBounds_toArray, List.set_cons_zero, List.set_cons_succ]))
      ((first | ((first | refine Exists.elim (Res.two hHeld) (fun rx rh => ?_) | refine Exists.elim (ResC.two hHeld) (fun rx rh => ?_) | refine Exists.elim (Res.two hHeld.1) (fun rx rh => ?_)); refine Exists.elim rh (fun ry rb => ?_); have r0 := rb.two.1.1; have r1 := rb.two.1.2; have r2 := rb.two.2.1; have r3 := rb.two.2.2; clear rh) | ((first | refine Exists.elim (Res.four hHeld) (fun rx rh => ?_) | refine Exists.elim (Res.four hHeld.1) (fun rx rh => ?_)); refine Exists.elim rh (fun ry rh => ?_); refine Exists.elim rh (fun rz rh => ?_); refine Exists.elim rh (fun ru rb => ?_); have r0 := rb.four.1.1; have r1 := rb.four.1.2.1; have r2 := rb.four.1.2.2.1; have r3 := rb.four.1.2.2.2; have r4 := rb.four.2.1; have r5 := rb.four.2.2.1; have r6 := rb.four.2.2.2.1; have r7 := rb.four.2.2.2.2; clear rh) | (refine Exists.elim (Res.three hHeld) (fun rx rh => ?_); refine Exists.elim rh (fun ry rh => ?_); refine Exists.elim rh (fun rz rb => ?_); have r0 := rb.three'.1.1; have r1 := rb.three'.1.2.1; have r2 := rb.three'.1.2.2; have r3 := rb.three'.2.1; have r4 := rb.three'.2.2.1; have r5 := rb.three'.2.2.2; clear rh; (try simp only [World.cell?_drew, World.frozen?_drew] at r0 r1 r2 r3 r4 r5)) | (refine Exists.elim (Res.five hHeld) (fun rx rh => ?_); refine Exists.elim rh (fun ry rh => ?_); refine Exists.elim rh (fun rz rh => ?_); refine Exists.elim rh (fun ru rh => ?_); refine Exists.elim rh (fun rt rb => ?_); have r0 := rb.five.1.1; have r1 := rb.five.1.2.1; have r2 := rb.five.1.2.2.1; have r3 := rb.five.1.2.2.2.1; have r4 := rb.five.1.2.2.2.2; have r5 := rb.five.2.1; have r6 := rb.five.2.2.1; have r7 := rb.five.2.2.2.1; have r8 := rb.five.2.2.2.2.1; have r9 := rb.five.2.2.2.2.2; clear rh; (try simp only [World.cell?_drew, World.frozen?_drew] at r0 r1 r2 r3 r4 r5 r6 r7 r8 r9)) | (refine Exists.elim (SD.one hHeld) (fun rx rh => ?_); have r0 := rh.1; have r1 := rh.2; clear rh)); refine wpAnyH_ready (rs := [10]) (by kernel_rfl) (by simp) ?_; refine AllReadyH.cons rfl (fun K hK => ?_) AllReadyH.nil; go_simp; (refine hK.out _ _ (by first | with_reducible exact SD.set hHeld _ | with_reducible exact Res.set (Res.set hHeld _ _) _ _ | with_reducible exact ResB.set (ResB.set hHeld _ _) _ _ | with_reducible exact ResC.set (ResC.set hHeld _ _) _ _ | with_reducible exact Res.set (Res.set (Res.set (Res.set hHeld _ _) _ _) _ _) _ _ | with_reducible exact Res.set (Res.set (Res.set hHeld _ _) _ _) _ _ | with_reducible exact Res.set (Res.set (Res.set (Res.set (Res.set hHeld _ _) _ _) _ _) _ _) _ _) (fun hHeld => ?_)); clear hK K; (try simp only [Act.put, List.setIfInBounds_toArray, List.set_cons_zero, List.set_cons_succ]))
      refine wpAnyH_done (by kernel_rfl) ?_ _
      replace R := Lib.hid (R.out.chg hHeld.1 (by simp <;> omega))
      replace T := Lib.hid (T.out.chg hHeld.1 (by simp <;> omega))
      replace U := Lib.hid (U.out.chg hHeld.1 (by simp <;> omega))
      replace X := Lib.hid (X.out.chg hHeld.1 (by simp <;> omega))
      replace P := Lib.hid (P.out.chg hHeld.1 (by simp <;> omega))
      replace Q := Lib.hid (rb.set2 (u := .int .i64 p) (v := .int .i64 (IntKind.i64.wrap (q - IntKind.i64.wrap (2 * sgn q)))))
      replace hx := Lib.hid (hHeld.1.ext hx.out (by omega))
      clear hHeld rb r0 r1 r2 r3 e0 e1 S0
      generalize World.setCell _ _ _ = w8 at *
      obtain ⟨⟨k0, k1, k2, k3⟩, l0, l1, l2, l3⟩ := R.out.four
      obtain ⟨⟨m0, m1⟩, o0, o1⟩ := T.out.two
      obtain ⟨⟨n0, n1⟩, n2, n3⟩ := U.out.two
      obtain ⟨⟨x0, x1, x2, x3⟩, z0, z1, z2, z3⟩ := X.out.four
      obtain ⟨⟨y0, y1⟩, q0, q1⟩ := P.out.two
      obtain ⟨⟨v0, v1⟩, u0, u1⟩ := Q.out.two
      have hxx := hx.out
      go_wp2_with fail
      go_region
      all_goals
        go_wp2
        exact wy_done (n := w.heap.size) (m := w.heap.size + 1) (k := w.heap.size + 1 + 1) (Box.away2 (Box.away2 (Box.set4 R.out) (by omega)) (by omega)).drew (Box.away2 (Box.set2 (Box.away4 T.out (by omega))) (by omega)).drew (Box.set2 (Box.away2 (Box.away4 U.out (by omega)) (by omega))).drew (by repeat (first | with_reducible assumption | with_reducible apply Ext.alloc | with_reducible apply Ext.drew | (with_reducible refine Ext.setNew ?_ (by simp <;> omega) _))) rfl rfl rfl
    · have t2 : (r2 == 0) = false := beq_eq_false_iff_ne.2 h2
      clear h2
      obtain ⟨⟨k0, k1, k2, k3⟩, l0, l1, l2, l3⟩ := R.out.four
      obtain ⟨⟨m0, m1⟩, o0, o1⟩ := T.out.two
      obtain ⟨⟨n0, n1⟩, n2, n3⟩ := U.out.two
      obtain ⟨⟨x0, x1, x2, x3⟩, z0, z1, z2, z3⟩ := X.out.four
      obtain ⟨⟨y0, y1⟩, q0, q1⟩ := P.out.two
      obtain ⟨⟨v0, v1⟩, u0, u1⟩ := Q.out.two
      have hxx := hx.out
      go_wp2_with fail
      go_region
      all_goals
        go_wp2
        exact wy_done (n := w.heap.size) (m := w.heap.size + 1) (k := w.heap.size + 1 + 1) (Box.away2 (Box.away2 (Box.set4 R.out) (by omega)) (by omega)).drew (Box.away2 (Box.set2 (Box.away4 T.out (by omega))) (by omega)).drew (Box.set2 (Box.away2 (Box.away4 U.out (by omega)) (by omega))).drew (by repeat (first | with_reducible assumption | with_reducible apply Ext.alloc | with_reducible apply Ext.drew | (with_reducible refine Ext.setNew ?_ (by simp <;> omega) _))) rfl rfl rfl

end Go.Proofs.Ytookaodccmlkoaa.Draw
