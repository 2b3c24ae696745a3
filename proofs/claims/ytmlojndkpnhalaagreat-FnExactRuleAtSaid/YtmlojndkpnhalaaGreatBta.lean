import Derived.Test.YtmlojndkpnhalaaGreatMMan4
import Derived.Test.YtmlojndkpnhalaaGreatHulA
import Derived.Test.YtmlojndkpnhalaaGreatMBts
namespace Go.Proofs.YtmlojndkpnhalaaGreat.Bta
open Go.ChangeShapes Go.WideShapes Go.ChangeAt Go.RowKit
open Go.Proofs.YtmlojndkpnhalaaGreat.Num Go.Proofs.YtmlojndkpnhalaaGreat.Kit Go.Proofs.YtmlojndkpnhalaaGreat.Pts Go.Proofs.YtmlojndkpnhalaaGreat.Seg Go.Proofs.YtmlojndkpnhalaaGreat.Gcd Go.Proofs.YtmlojndkpnhalaaGreat.Wnd Go.Proofs.YtmlojndkpnhalaaGreat.Hul Go.Proofs.YtmlojndkpnhalaaGreat.Trn
open Go.Proofs.YtmlojndkpnhalaaGreat.Trk (F3 Fxs Tr trB fx pkX pkY legOf heX heY)
open Go.Proofs.YtmlojndkpnhalaaGreat.Bts (L6)
set_option linter.unusedVariables false
set_option linter.unusedSimpArgs false
def baC (x y : Int) (fs : List F3) (t l s : Int) : Int := if tuC x y fs t s = 0 then haC fs t l else tuC x y fs t s
def baV (x y : Int) (fs : List F3) (t l s z : Int) : Int := if baC x y fs t l s = 0 then z else 0
def baB (x y : Int) (fs : List F3) (t l s : Int) : Bool := if baC x y fs t l s = 0 then tuB x y fs t s else false
abbrev baH (x y : Int) (fs : List F3) (t l s : Int) : Value := .agg #[.int .i64 (baV x y fs t l s (pkX fs t (legOf fs t))), .int .i64 (baV x y fs t l s (pkY fs t (legOf fs t))), .int .i64 (baV x y fs t l s (heX fs t)), .int .i64 (baV x y fs t l s (heY fs t)), .int .i64 (baV x y fs t l s l), .bool (baB x y fs t l s)]
theorem ba_no {x y : Int} {fs : List F3} {t l s : Int} (h : baC x y fs t l s ≠ 0) : (∀ z, baV x y fs t l s z = 0) ∧ baB x y fs t l s = false := ⟨fun z => if_neg h, if_neg h⟩
theorem ba_yes {x y : Int} {fs : List F3} {t l s : Int} (h : baC x y fs t l s = 0) : (∀ z, baV x y fs t l s z = z) ∧ baB x y fs t l s = tuB x y fs t s := ⟨fun z => if_pos h, if_pos h⟩
theorem ba_tu {x y : Int} {fs : List F3} {t l s : Int} (h : tuC x y fs t s ≠ 0) : baC x y fs t l s = tuC x y fs t s := if_neg h
theorem ba_ha {x y : Int} {fs : List F3} {t l s : Int} (h : tuC x y fs t s = 0) : baC x y fs t l s = haC fs t l := if_pos h
theorem Box.put6 {w : World} {n : Nat} {x0 x1 x2 x3 x4 x5 : Value} (h : Box w n [x0, x1, x2, x3, x4, x5]) (a b c d e s : Value) : Box ((((((w.setCell ⟨n, 0, none⟩ a).setCell ⟨n, 1, none⟩ b).setCell ⟨n, 2, none⟩ c).setCell ⟨n, 3, none⟩ d).setCell ⟨n, 4, none⟩ e).setCell ⟨n, 5, none⟩ s) n [a, b, c, d, e, s] :=
  (((((h.set 0 (by simp) a).set 1 (by simp) b).set 2 (by simp) c).set 3 (by simp) d).set 4 (by simp) e).set 5 (by simp) s
theorem ext_put6 {w0 w : World} {n : Nat} (h : Ext w0 w) (hn : w0.heap.size ≤ n) (a b c d e s : Value) : Ext w0 ((((((w.setCell ⟨n, 0, none⟩ a).setCell ⟨n, 1, none⟩ b).setCell ⟨n, 2, none⟩ c).setCell ⟨n, 3, none⟩ d).setCell ⟨n, 4, none⟩ e).setCell ⟨n, 5, none⟩ s) :=
  (((((h.setNew hn _).setNew hn _).setNew hn _).setNew hn _).setNew hn _).setNew hn _
theorem bi_done {n : Nat} {w F : World} {tmps : Array Value} {a b c d e k : Int} {s : Bool} (B : Box F n (L6 a b c d e s)) (hC : Ext w F) (h6 : tmps[10]? = some (.pointer (some ⟨n, 0, none⟩))) (h7 : tmps[11]? = some (.int .i64 k)) (X : Value) (hX : X = .agg #[.int .i64 a, .int .i64 b, .int .i64 c, .int .i64 d, .int .i64 e, .bool s]) (K : Int) (hK : K = k) :
    bodyPost Tryz.prog Tryz.f31 (fun e w' => e = .returned (.tuple #[X, .int .i64 K]) ∧ Ext w w') Exit.ret ⟨tmps, []⟩ F := by
  subst hX; subst hK
  obtain ⟨⟨g0, g1, g2, g3, g4, g5⟩, _⟩ := Bts.Box.sixc B
  exact bodyPost_ret (v := .tuple #[.agg #[.int .i64 a, .int .i64 b, .int .i64 c, .int .i64 d, .int .i64 e, .bool s], .int .i64 K]) (by simp [results, Tryz.results31, go_sem, h6, h7, g0, g1, g2, g3, g4, g5]) rfl ⟨rfl, hC⟩
set_option maxRecDepth 100000 in
set_option maxHeartbeats 4000000 in
theorem boatAt_impl (x y : Int) (a : Option Addr) (cap : Nat) (fs : List F3) (t l s : Int) (w : World) (hf : Fxs w a fs) (hl : fs.length ≤ 1048576) (hcap : fs.length ≤ cap) :
    Calls Tryz.prog 31 #[Pt x y, Tr (.slice a fs.length cap), .int .i64 t, .int .i64 l, .int .i64 s] w fun e w' => e = .returned (.tuple #[baH x y fs t l s, .int .i64 (baC x y fs t l s)]) ∧ Ext w w' := by
  have HF := Lib.hid hf
  clear hf
  obtain ⟨W0, hW0⟩ : ∃ W0, W0 = ((w.alloc (.cells #[.int .i64 x, .int .i64 y] 54)).alloc (.cells #[.slice a fs.length cap] 33)).alloc (.cells #[.int .i64 0, .int .i64 0, .int .i64 0, .int .i64 0, .int .i64 0, .bool false] 64) := ⟨_, rfl⟩
  have hX : Ext w W0 := hW0 ▸ ((((Ext.refl w).alloc _).alloc _).alloc _)
  have hs0 : W0.heap.size = w.heap.size + 1 + 1 + 1 := by rw [hW0]; simp
  have e00 : ∀ w', (Ext W0) w' → w'.cell? ⟨w.heap.size, 0, none⟩ = some (.int .i64 x) := fun w' h => h.cellOf (by rw [hW0]; exact (((Ext.refl _).alloc _).alloc _).cellOf (boxed 0 rfl (by simp)))
  have e01 : ∀ w', (Ext W0) w' → w'.cell? ⟨w.heap.size, 1, none⟩ = some (.int .i64 y) := fun w' h => h.cellOf (by rw [hW0]; exact (((Ext.refl _).alloc _).alloc _).cellOf (boxed 1 rfl (by simp)))
  have e10 : ∀ w', (Ext W0) w' → w'.cell? ⟨w.heap.size + 1, 0, none⟩ = some (.slice a fs.length cap) := fun w' h => h.cellOf (by rw [hW0]; exact ((Ext.refl _).alloc _).cellOf (boxed 0 rfl (by simp)))
  have e20 : ∀ w', (Ext W0) w' → w'.cell? ⟨w.heap.size + 1 + 1, 0, none⟩ = some (.int .i64 0) := fun w' h => h.cellOf (by rw [hW0]; exact boxed 0 rfl (by simp))
  have e21 : ∀ w', (Ext W0) w' → w'.cell? ⟨w.heap.size + 1 + 1, 1, none⟩ = some (.int .i64 0) := fun w' h => h.cellOf (by rw [hW0]; exact boxed 1 rfl (by simp))
  have e22 : ∀ w', (Ext W0) w' → w'.cell? ⟨w.heap.size + 1 + 1, 2, none⟩ = some (.int .i64 0) := fun w' h => h.cellOf (by rw [hW0]; exact boxed 2 rfl (by simp))
  have e23 : ∀ w', (Ext W0) w' → w'.cell? ⟨w.heap.size + 1 + 1, 3, none⟩ = some (.int .i64 0) := fun w' h => h.cellOf (by rw [hW0]; exact boxed 3 rfl (by simp))
  have e24 : ∀ w', (Ext W0) w' → w'.cell? ⟨w.heap.size + 1 + 1, 4, none⟩ = some (.int .i64 0) := fun w' h => h.cellOf (by rw [hW0]; exact boxed 4 rfl (by simp))
  have e25 : ∀ w', (Ext W0) w' → w'.cell? ⟨w.heap.size + 1 + 1, 5, none⟩ = some (.bool false) := fun w' h => h.cellOf (by rw [hW0]; exact boxed 5 rfl (by simp))
  have B2 := Lib.hid (show Box W0 (w.heap.size + 1 + 1) (L6 0 0 0 0 0 false) from hW0 ▸ Box.new (vs := L6 0 0 0 0 0 false) (by simp))
  have KT := Lib.hid (turningAt_impl x y a cap fs t s W0 (HF.out.ext hX) hl)
  go_enter Tryz.func31, Tryz.ntmps31
  go_wp2_with fail
  rw [← hW0]
  clear hW0
  refine KT.out.mono ?_
  rintro e w1 ⟨rfl, hz⟩
  replace hz : Ext W0 w1 := hz
  clear KT
  by_cases hc : tuC x y fs t s = 0
  · have HB0 := Lib.hid (ba_ha (l := l) hc)
    have KH := Lib.hid (hullAt_impl a cap fs t l w1 (HF.out.ext (hX.trans hz)) hcap)
    have g10 := e10 w1 hz
    rw [hc]
    clear hc
    go_wp2_with fail
    refine KH.out.mono ?_
    rintro e w2 ⟨rfl, hy⟩
    replace hz := hz.trans hy
    clear hy KH g10
    by_cases hh : haC fs t l = 0
    · have HB := Lib.hid (ba_yes (HB0.out.trans hh))
      have HC := Lib.hid (HB0.out.trans hh)
      have e : ∀ z, haV fs t l z = z := fun z => if_pos hh
      rw [show haH fs t l = Hv (pkX fs t (legOf fs t)) (pkY fs t (legOf fs t)) (heX fs t) (heY fs t) l from ha_yes hh, hh]
      have HE := Lib.hid (show baH x y fs t l s = .agg #[.int .i64 (pkX fs t (legOf fs t)), .int .i64 (pkY fs t (legOf fs t)), .int .i64 (heX fs t), .int .i64 (heY fs t), .int .i64 l, .bool (tuB x y fs t s)] by unfold baH; rw [HB.out.1, HB.out.1, HB.out.1, HB.out.1, HB.out.1, HB.out.2])
      clear e hh HB
      generalize pkX fs t (legOf fs t) = v1 at *
      generalize pkY fs t (legOf fs t) = v2 at *
      generalize heX fs t = v3 at *
      generalize heY fs t = v4 at *
      generalize tuB x y fs t s = v6 at *
      have zz : Ext W0 (w2.alloc (.cells #[.int .i64 v1, .int .i64 v2, .int .i64 v3, .int .i64 v4, .int .i64 l] 62)) := hz.alloc _
      obtain ⟨⟨r0, r1, r2, r3, r4, r5⟩, q0, q1, q2, q3, q4, q5⟩ := Bts.Box.sixc (B2.out.ext zz)
      obtain ⟨⟨k0, k1, k2, k3, k4⟩, _⟩ := (show Box (w2.alloc (.cells #[.int .i64 v1, .int .i64 v2, .int .i64 v3, .int .i64 v4, .int .i64 l] 62)) w2.heap.size [.int .i64 v1, .int .i64 v2, .int .i64 v3, .int .i64 v4, .int .i64 l] from Box.new5 rfl).five
      go_wp2
      exact bi_done (Box.put6 (B2.out.ext zz) _ _ _ _ _ _) (ext_put6 (hX.trans zz) (by omega) _ _ _ _ _ _) rfl rfl _ HE.out _ HC.out
    · have HB := Lib.hid (ba_no (show baC x y fs t l s ≠ 0 by rw [HB0.out]; exact hh))
      have HE := Lib.hid (show baH x y fs t l s = .agg #[.int .i64 0, .int .i64 0, .int .i64 0, .int .i64 0, .int .i64 0, .bool false] by unfold baH; rw [HB.out.1, HB.out.1, HB.out.1, HB.out.1, HB.out.1, HB.out.2])
      have hh2 : (haC fs t l != 0) = true := by simpa using hh
      rw [show haH fs t l = Hv 0 0 0 0 0 from ha_no hh]
      clear HB hh
      generalize haC fs t l = k at *
      have zz : Ext W0 (w2.alloc (.cells #[.int .i64 0, .int .i64 0, .int .i64 0, .int .i64 0, .int .i64 0] 62)) := hz.alloc _
      obtain ⟨⟨r0, r1, r2, r3, r4, r5⟩, q0, q1, q2, q3, q4, q5⟩ := Bts.Box.sixc (B2.out.ext zz)
      go_wp2
      exact bi_done (Box.put6 (B2.out.ext zz) _ _ _ _ _ _) (ext_put6 (hX.trans zz) (by omega) _ _ _ _ _ _) rfl rfl _ HE.out _ HB0.out
  · have HB0 := Lib.hid (ba_tu (l := l) hc)
    have HB := Lib.hid (ba_no (show baC x y fs t l s ≠ 0 by rw [HB0.out]; exact hc))
    have HE := Lib.hid (show baH x y fs t l s = .agg #[.int .i64 0, .int .i64 0, .int .i64 0, .int .i64 0, .int .i64 0, .bool false] by unfold baH; rw [HB.out.1, HB.out.1, HB.out.1, HB.out.1, HB.out.1, HB.out.2])
    have hc2 : (tuC x y fs t s != 0) = true := by simpa using hc
    clear HB hc
    generalize tuC x y fs t s = k at *
    generalize tuB x y fs t s = v6 at *
    obtain ⟨⟨r0, r1, r2, r3, r4, r5⟩, q0, q1, q2, q3, q4, q5⟩ := Bts.Box.sixc (B2.out.ext hz)
    go_wp2
    exact bi_done (Box.put6 (B2.out.ext hz) _ _ _ _ _ _) (ext_put6 (hX.trans hz) (by omega) _ _ _ _ _ _) rfl rfl _ HE.out _ HB0.out
theorem bs_done {n : Nat} {w F : World} {tmps : Array Value} {a b c d e k : Int} {s : Bool} (B : Box F n (L6 a b c d e s)) (hC : Ext w F) (h6 : tmps[10]? = some (.pointer (some ⟨n, 0, none⟩))) (h7 : tmps[11]? = some (.int .i64 k)) (X : Value) (hX : X = .agg #[.int .i64 a, .int .i64 b, .int .i64 c, .int .i64 d, .int .i64 e, .bool s]) (K : Int) (hK : K = k) :
    bodyPost Tryz.prog Tryz.f88 (fun e w' => e = .returned (.tuple #[X, .int .i64 K]) ∧ Ext w w') Exit.ret ⟨tmps, []⟩ F := by
  subst hX; subst hK
  obtain ⟨⟨g0, g1, g2, g3, g4, g5⟩, _⟩ := Bts.Box.sixc B
  exact bodyPost_ret (v := .tuple #[.agg #[.int .i64 a, .int .i64 b, .int .i64 c, .int .i64 d, .int .i64 e, .bool s], .int .i64 K]) (by simp [results, Tryz.results88, go_sem, h6, h7, g0, g1, g2, g3, g4, g5]) rfl ⟨rfl, hC⟩
set_option maxRecDepth 100000 in
set_option maxHeartbeats 4000000 in
theorem boatAt_spec (x y : Int) (a : Option Addr) (cap : Nat) (fs : List F3) (t l s : Int) (w : World) (hf : Fxs w a fs) (hcap : fs.length ≤ cap) :
    Calls Tryz.prog 88 #[Pt x y, Tr (.slice a fs.length cap), .int .i64 t, .int .i64 l, .int .i64 s] w fun e w' => e = .returned (.tuple #[baH x y fs t l s, .int .i64 (baC x y fs t l s)]) ∧ Ext w w' := by
  have HF := Lib.hid hf
  clear hf
  obtain ⟨W0, hW0⟩ : ∃ W0, W0 = ((w.alloc (.cells #[.int .i64 x, .int .i64 y] 54)).alloc (.cells #[.slice a fs.length cap] 33)).alloc (.cells #[.int .i64 0, .int .i64 0, .int .i64 0, .int .i64 0, .int .i64 0, .bool false] 64) := ⟨_, rfl⟩
  have hX : Ext w W0 := hW0 ▸ ((((Ext.refl w).alloc _).alloc _).alloc _)
  have hs0 : W0.heap.size = w.heap.size + 1 + 1 + 1 := by rw [hW0]; simp
  have e00 : ∀ w', (Ext W0) w' → w'.cell? ⟨w.heap.size, 0, none⟩ = some (.int .i64 x) := fun w' h => h.cellOf (by rw [hW0]; exact (((Ext.refl _).alloc _).alloc _).cellOf (boxed 0 rfl (by simp)))
  have e01 : ∀ w', (Ext W0) w' → w'.cell? ⟨w.heap.size, 1, none⟩ = some (.int .i64 y) := fun w' h => h.cellOf (by rw [hW0]; exact (((Ext.refl _).alloc _).alloc _).cellOf (boxed 1 rfl (by simp)))
  have e10 : ∀ w', (Ext W0) w' → w'.cell? ⟨w.heap.size + 1, 0, none⟩ = some (.slice a fs.length cap) := fun w' h => h.cellOf (by rw [hW0]; exact ((Ext.refl _).alloc _).cellOf (boxed 0 rfl (by simp)))
  have e20 : ∀ w', (Ext W0) w' → w'.cell? ⟨w.heap.size + 1 + 1, 0, none⟩ = some (.int .i64 0) := fun w' h => h.cellOf (by rw [hW0]; exact boxed 0 rfl (by simp))
  have e21 : ∀ w', (Ext W0) w' → w'.cell? ⟨w.heap.size + 1 + 1, 1, none⟩ = some (.int .i64 0) := fun w' h => h.cellOf (by rw [hW0]; exact boxed 1 rfl (by simp))
  have e22 : ∀ w', (Ext W0) w' → w'.cell? ⟨w.heap.size + 1 + 1, 2, none⟩ = some (.int .i64 0) := fun w' h => h.cellOf (by rw [hW0]; exact boxed 2 rfl (by simp))
  have e23 : ∀ w', (Ext W0) w' → w'.cell? ⟨w.heap.size + 1 + 1, 3, none⟩ = some (.int .i64 0) := fun w' h => h.cellOf (by rw [hW0]; exact boxed 3 rfl (by simp))
  have e24 : ∀ w', (Ext W0) w' → w'.cell? ⟨w.heap.size + 1 + 1, 4, none⟩ = some (.int .i64 0) := fun w' h => h.cellOf (by rw [hW0]; exact boxed 4 rfl (by simp))
  have e25 : ∀ w', (Ext W0) w' → w'.cell? ⟨w.heap.size + 1 + 1, 5, none⟩ = some (.bool false) := fun w' h => h.cellOf (by rw [hW0]; exact boxed 5 rfl (by simp))
  have B2 := Lib.hid (show Box W0 (w.heap.size + 1 + 1) (L6 0 0 0 0 0 false) from hW0 ▸ Box.new (vs := L6 0 0 0 0 0 false) (by simp))
  have KT := Lib.hid (turningAt_spec x y a cap fs t s W0 (HF.out.ext hX))
  go_enter Tryz.func88, Tryz.ntmps88
  go_wp2_with fail
  rw [← hW0]
  clear hW0
  refine KT.out.mono ?_
  rintro e w1 ⟨rfl, hz⟩
  replace hz : Ext W0 w1 := hz
  clear KT
  by_cases hc : tuC x y fs t s = 0
  · have HB0 := Lib.hid (ba_ha (l := l) hc)
    have KH := Lib.hid (hullAt_spec a cap fs t l w1 (HF.out.ext (hX.trans hz)) hcap)
    have g10 := e10 w1 hz
    rw [hc]
    clear hc
    go_wp2_with fail
    refine KH.out.mono ?_
    rintro e w2 ⟨rfl, hy⟩
    replace hz := hz.trans hy
    clear hy KH g10
    by_cases hh : haC fs t l = 0
    · have HB := Lib.hid (ba_yes (HB0.out.trans hh))
      have HC := Lib.hid (HB0.out.trans hh)
      have e : ∀ z, haV fs t l z = z := fun z => if_pos hh
      rw [show haH fs t l = Hv (pkX fs t (legOf fs t)) (pkY fs t (legOf fs t)) (heX fs t) (heY fs t) l from ha_yes hh, hh]
      have HE := Lib.hid (show baH x y fs t l s = .agg #[.int .i64 (pkX fs t (legOf fs t)), .int .i64 (pkY fs t (legOf fs t)), .int .i64 (heX fs t), .int .i64 (heY fs t), .int .i64 l, .bool (tuB x y fs t s)] by unfold baH; rw [HB.out.1, HB.out.1, HB.out.1, HB.out.1, HB.out.1, HB.out.2])
      clear e hh HB
      generalize pkX fs t (legOf fs t) = v1 at *
      generalize pkY fs t (legOf fs t) = v2 at *
      generalize heX fs t = v3 at *
      generalize heY fs t = v4 at *
      generalize tuB x y fs t s = v6 at *
      have zz : Ext W0 (w2.alloc (.cells #[.int .i64 v1, .int .i64 v2, .int .i64 v3, .int .i64 v4, .int .i64 l] 62)) := hz.alloc _
      obtain ⟨⟨r0, r1, r2, r3, r4, r5⟩, q0, q1, q2, q3, q4, q5⟩ := Bts.Box.sixc (B2.out.ext zz)
      obtain ⟨⟨k0, k1, k2, k3, k4⟩, _⟩ := (show Box (w2.alloc (.cells #[.int .i64 v1, .int .i64 v2, .int .i64 v3, .int .i64 v4, .int .i64 l] 62)) w2.heap.size [.int .i64 v1, .int .i64 v2, .int .i64 v3, .int .i64 v4, .int .i64 l] from Box.new5 rfl).five
      go_wp2
      exact bs_done (Box.put6 (B2.out.ext zz) _ _ _ _ _ _) (ext_put6 (hX.trans zz) (by omega) _ _ _ _ _ _) rfl rfl _ HE.out _ HC.out
    · have HB := Lib.hid (ba_no (show baC x y fs t l s ≠ 0 by rw [HB0.out]; exact hh))
      have HE := Lib.hid (show baH x y fs t l s = .agg #[.int .i64 0, .int .i64 0, .int .i64 0, .int .i64 0, .int .i64 0, .bool false] by unfold baH; rw [HB.out.1, HB.out.1, HB.out.1, HB.out.1, HB.out.1, HB.out.2])
      have hh2 : (haC fs t l != 0) = true := by simpa using hh
      rw [show haH fs t l = Hv 0 0 0 0 0 from ha_no hh]
      clear HB hh
      generalize haC fs t l = k at *
      have zz : Ext W0 (w2.alloc (.cells #[.int .i64 0, .int .i64 0, .int .i64 0, .int .i64 0, .int .i64 0] 62)) := hz.alloc _
      obtain ⟨⟨r0, r1, r2, r3, r4, r5⟩, q0, q1, q2, q3, q4, q5⟩ := Bts.Box.sixc (B2.out.ext zz)
      go_wp2
      exact bs_done (Box.put6 (B2.out.ext zz) _ _ _ _ _ _) (ext_put6 (hX.trans zz) (by omega) _ _ _ _ _ _) rfl rfl _ HE.out _ HB0.out
  · have HB0 := Lib.hid (ba_tu (l := l) hc)
    have HB := Lib.hid (ba_no (show baC x y fs t l s ≠ 0 by rw [HB0.out]; exact hc))
    have HE := Lib.hid (show baH x y fs t l s = .agg #[.int .i64 0, .int .i64 0, .int .i64 0, .int .i64 0, .int .i64 0, .bool false] by unfold baH; rw [HB.out.1, HB.out.1, HB.out.1, HB.out.1, HB.out.1, HB.out.2])
    have hc2 : (tuC x y fs t s != 0) = true := by simpa using hc
    clear HB hc
    generalize tuC x y fs t s = k at *
    generalize tuB x y fs t s = v6 at *
    obtain ⟨⟨r0, r1, r2, r3, r4, r5⟩, q0, q1, q2, q3, q4, q5⟩ := Bts.Box.sixc (B2.out.ext hz)
    go_wp2
    exact bs_done (Box.put6 (B2.out.ext hz) _ _ _ _ _ _) (ext_put6 (hX.trans hz) (by omega) _ _ _ _ _ _) rfl rfl _ HE.out _ HB0.out
end Go.Proofs.YtmlojndkpnhalaaGreat.Bta
