/- What RuleOn answers (chapter 10), both. -/
import Derived.Test.YtcangdcakgcpaaaRul4
namespace Go.Proofs.Ytcangdcakgcpaaa.Rul
open Go.ChangeShapes Go.WideShapes Go.ChangeAt Go.RowKit
open Go.Proofs.Ytcangdcakgcpaaa.Num Go.Proofs.Ytcangdcakgcpaaa.Kit Go.Proofs.Ytcangdcakgcpaaa.Pts Go.Proofs.Ytcangdcakgcpaaa.Seg Go.Proofs.Ytcangdcakgcpaaa.Wnd Go.Proofs.Ytcangdcakgcpaaa.Hul
set_option linter.unusedVariables false
set_option linter.unusedSimpArgs false

/-- The answers of RuleOn. -/
def roK (x y a b c d n : Int) (s : Bool) (p q u v m : Int) (t : Bool) : Int := if wwB x y a b c d n p q u v m = true then ruK x y a b c d n s p q u v m t else 0
def roR (x y a b c d n : Int) (s : Bool) (p q u v m : Int) (t : Bool) : Int := if wwB x y a b c d n p q u v m = true then ruR x y a b c d n s p q u v m t else 0

theorem ri_done {n : Nat} {w F : World} {tmps : Array Value} {a b k : Int} (B : Box F n [.int .i64 a, .int .i64 b]) (hC : Ext w F) (h6 : tmps[6]? = some (.pointer (some ⟨n, 0, none⟩))) (h7 : tmps[7]? = some (.int .i64 k)) (X Y C : Int) (hX : X = a) (hY : Y = b) (hK : C = k) :
    bodyPost Try.prog Try.f17 (fun e w' => e = .returned (.tuple #[Pt X Y, .int .i64 C]) ∧ Ext w w') Exit.ret ⟨tmps, []⟩ F := by
  subst hX; subst hY; subst hK
  obtain ⟨⟨g0, g1⟩, _⟩ := B.two
  exact bodyPost_ret (v := .tuple #[Pt X Y, .int .i64 C]) (by simp [results, Try.results17, go_sem, h6, h7, g0, g1]) rfl ⟨rfl, hC⟩

set_option maxHeartbeats 4000000 in
theorem ruleOn_impl (x y a b c d n : Int) (s : Bool) (p q u v m : Int) (t : Bool) (w : World) :
    Calls Try.prog 17 #[Pt x y, Bo a b c d n s, Bo p q u v m t] w fun e w' => e = .returned (.tuple #[Pt (roK x y a b c d n s p q u v m t) (roR x y a b c d n s p q u v m t), .int .i64 (wwC x y a b c d n p q u v m)]) ∧ Ext w w' := by
  obtain ⟨W0, hW0⟩ : ∃ W0, W0 = (((w.alloc (.cells #[.int .i64 x, .int .i64 y] 25)).alloc (.cells #[.int .i64 a, .int .i64 b, .int .i64 c, .int .i64 d, .int .i64 n, .bool s] 41)).alloc (.cells #[.int .i64 p, .int .i64 q, .int .i64 u, .int .i64 v, .int .i64 m, .bool t] 41)).alloc (.cells #[.int .i64 0, .int .i64 0] 34) := ⟨_, rfl⟩
  have hX : Ext w W0 := hW0 ▸ (((((Ext.refl w).alloc _).alloc _).alloc _).alloc _)
  have hs0 : W0.heap.size = w.heap.size + 1 + 1 + 1 + 1 := by rw [hW0]; simp
  have e00 : ∀ w', (Ext W0) w' → w'.cell? ⟨w.heap.size, 0, none⟩ = some (.int .i64 x) := fun w' h => h.cellOf (by rw [hW0]; exact ((((Ext.refl _).alloc _).alloc _).alloc _).cellOf (boxed 0 rfl (by simp)))
  have e01 : ∀ w', (Ext W0) w' → w'.cell? ⟨w.heap.size, 1, none⟩ = some (.int .i64 y) := fun w' h => h.cellOf (by rw [hW0]; exact ((((Ext.refl _).alloc _).alloc _).alloc _).cellOf (boxed 1 rfl (by simp)))
  have e10 : ∀ w', (Ext W0) w' → w'.cell? ⟨w.heap.size + 1, 0, none⟩ = some (.int .i64 a) := fun w' h => h.cellOf (by rw [hW0]; exact (((Ext.refl _).alloc _).alloc _).cellOf (boxed 0 rfl (by simp)))
  have e11 : ∀ w', (Ext W0) w' → w'.cell? ⟨w.heap.size + 1, 1, none⟩ = some (.int .i64 b) := fun w' h => h.cellOf (by rw [hW0]; exact (((Ext.refl _).alloc _).alloc _).cellOf (boxed 1 rfl (by simp)))
  have e12 : ∀ w', (Ext W0) w' → w'.cell? ⟨w.heap.size + 1, 2, none⟩ = some (.int .i64 c) := fun w' h => h.cellOf (by rw [hW0]; exact (((Ext.refl _).alloc _).alloc _).cellOf (boxed 2 rfl (by simp)))
  have e13 : ∀ w', (Ext W0) w' → w'.cell? ⟨w.heap.size + 1, 3, none⟩ = some (.int .i64 d) := fun w' h => h.cellOf (by rw [hW0]; exact (((Ext.refl _).alloc _).alloc _).cellOf (boxed 3 rfl (by simp)))
  have e14 : ∀ w', (Ext W0) w' → w'.cell? ⟨w.heap.size + 1, 4, none⟩ = some (.int .i64 n) := fun w' h => h.cellOf (by rw [hW0]; exact (((Ext.refl _).alloc _).alloc _).cellOf (boxed 4 rfl (by simp)))
  have e15 : ∀ w', (Ext W0) w' → w'.cell? ⟨w.heap.size + 1, 5, none⟩ = some (.bool s) := fun w' h => h.cellOf (by rw [hW0]; exact (((Ext.refl _).alloc _).alloc _).cellOf (boxed 5 rfl (by simp)))
  have e20 : ∀ w', (Ext W0) w' → w'.cell? ⟨w.heap.size + 1 + 1, 0, none⟩ = some (.int .i64 p) := fun w' h => h.cellOf (by rw [hW0]; exact ((Ext.refl _).alloc _).cellOf (boxed 0 rfl (by simp)))
  have e21 : ∀ w', (Ext W0) w' → w'.cell? ⟨w.heap.size + 1 + 1, 1, none⟩ = some (.int .i64 q) := fun w' h => h.cellOf (by rw [hW0]; exact ((Ext.refl _).alloc _).cellOf (boxed 1 rfl (by simp)))
  have e22 : ∀ w', (Ext W0) w' → w'.cell? ⟨w.heap.size + 1 + 1, 2, none⟩ = some (.int .i64 u) := fun w' h => h.cellOf (by rw [hW0]; exact ((Ext.refl _).alloc _).cellOf (boxed 2 rfl (by simp)))
  have e23 : ∀ w', (Ext W0) w' → w'.cell? ⟨w.heap.size + 1 + 1, 3, none⟩ = some (.int .i64 v) := fun w' h => h.cellOf (by rw [hW0]; exact ((Ext.refl _).alloc _).cellOf (boxed 3 rfl (by simp)))
  have e24 : ∀ w', (Ext W0) w' → w'.cell? ⟨w.heap.size + 1 + 1, 4, none⟩ = some (.int .i64 m) := fun w' h => h.cellOf (by rw [hW0]; exact ((Ext.refl _).alloc _).cellOf (boxed 4 rfl (by simp)))
  have e25 : ∀ w', (Ext W0) w' → w'.cell? ⟨w.heap.size + 1 + 1, 5, none⟩ = some (.bool t) := fun w' h => h.cellOf (by rw [hW0]; exact ((Ext.refl _).alloc _).cellOf (boxed 5 rfl (by simp)))
  have e30 : ∀ w', (Ext W0) w' → w'.cell? ⟨w.heap.size + 1 + 1 + 1, 0, none⟩ = some (.int .i64 0) := fun w' h => h.cellOf (by rw [hW0]; exact boxed 0 rfl (by simp))
  have e31 : ∀ w', (Ext W0) w' → w'.cell? ⟨w.heap.size + 1 + 1 + 1, 1, none⟩ = some (.int .i64 0) := fun w' h => h.cellOf (by rw [hW0]; exact boxed 1 rfl (by simp))
  have B3 := Lib.hid (show Box W0 (w.heap.size + 1 + 1 + 1) [.int .i64 0, .int .i64 0] from hW0 ▸ Box.new2 (by simp))
  go_enter Try.func17, Try.ntmps17
  go_wp2_with fail
  rw [← hW0]
  clear hW0
  refine (windValid_any _ _ _).mono ?_
  rintro e w1 ⟨rfl, hz⟩
  replace hz : Ext W0 w1 := hz
  cases h0 : wdB x y
  · have HB := Lib.hid (show wwB x y a b c d n p q u v m = false by unfold wwB; rw [h0]; rfl)
    have HC := Lib.hid (show wwC x y a b c d n p q u v m = 1 from if_no HB.out)
    have HK := Lib.hid (show roK x y a b c d n s p q u v m t = 0 from if_no HB.out)
    have HR := Lib.hid (show roR x y a b c d n s p q u v m t = 0 from if_no HB.out)
    obtain ⟨⟨r0, r1⟩, r2, r3⟩ := (B3.out.ext hz).two
    go_wp2
    exact ri_done (B3.out.ext hz).set2 (((hX.trans hz).setNew (by simp; omega) _).setNew (by simp; omega) _) rfl rfl _ _ _ HK.out HR.out HC.out
  have g10 := e10 w1 hz; have g11 := e11 w1 hz; have g12 := e12 w1 hz; have g13 := e13 w1 hz; have g14 := e14 w1 hz
  go_wp2_with fail
  refine (hullValid_any _ _ _ _ _ _).mono ?_
  rintro e w2 ⟨rfl, hy⟩
  replace hz := hz.trans hy
  clear hy g10 g11 g12 g13 g14
  cases h1 : hlB a b c d n
  · have HB := Lib.hid (show wwB x y a b c d n p q u v m = false by unfold wwB; rw [h0, h2_no1 h1]; rfl)
    have HC := Lib.hid (show wwC x y a b c d n p q u v m = 1 from if_no HB.out)
    have HK := Lib.hid (show roK x y a b c d n s p q u v m t = 0 from if_no HB.out)
    have HR := Lib.hid (show roR x y a b c d n s p q u v m t = 0 from if_no HB.out)
    obtain ⟨⟨r0, r1⟩, r2, r3⟩ := (B3.out.ext hz).two
    go_wp2
    exact ri_done (B3.out.ext hz).set2 (((hX.trans hz).setNew (by simp; omega) _).setNew (by simp; omega) _) rfl rfl _ _ _ HK.out HR.out HC.out
  have g20 := e20 w2 hz; have g21 := e21 w2 hz; have g22 := e22 w2 hz; have g23 := e23 w2 hz; have g24 := e24 w2 hz
  go_wp2_with fail
  refine (hullValid_any _ _ _ _ _ _).mono ?_
  rintro e w3 ⟨rfl, hy⟩
  replace hz := hz.trans hy
  clear hy g20 g21 g22 g23 g24
  cases h2 : hlB p q u v m
  · have HB := Lib.hid (show wwB x y a b c d n p q u v m = false by unfold wwB; rw [h0, h2_no2 h2]; rfl)
    have HC := Lib.hid (show wwC x y a b c d n p q u v m = 1 from if_no HB.out)
    have HK := Lib.hid (show roK x y a b c d n s p q u v m t = 0 from if_no HB.out)
    have HR := Lib.hid (show roR x y a b c d n s p q u v m t = 0 from if_no HB.out)
    obtain ⟨⟨r0, r1⟩, r2, r3⟩ := (B3.out.ext hz).two
    go_wp2
    exact ri_done (B3.out.ext hz).set2 (((hX.trans hz).setNew (by simp; omega) _).setNew (by simp; omega) _) rfl rfl _ _ _ HK.out HR.out HC.out
  have HB := Lib.hid (show wwB x y a b c d n p q u v m = true by unfold wwB; rw [h0, h2_yes h1 h2]; rfl)
  have HC := Lib.hid (show wwC x y a b c d n p q u v m = 0 from if_yes HB.out)
  have HK := Lib.hid (show roK x y a b c d n s p q u v m t = ruK x y a b c d n s p q u v m t from if_yes HB.out)
  have HR := Lib.hid (show roR x y a b c d n s p q u v m t = ruR x y a b c d n s p q u v m t from if_yes HB.out)
  have PA := Lib.hid (fun w => rulingOn_any x y a b c d n s p q u v m t w h0 h1 h2)
  generalize ruK x y a b c d n s p q u v m t = K at *
  generalize ruR x y a b c d n s p q u v m t = Q at *
  have g00 := e00 w3 hz; have g01 := e01 w3 hz
  have g10 := e10 w3 hz; have g11 := e11 w3 hz; have g12 := e12 w3 hz; have g13 := e13 w3 hz; have g14 := e14 w3 hz; have g15 := e15 w3 hz
  have g20 := e20 w3 hz; have g21 := e21 w3 hz; have g22 := e22 w3 hz; have g23 := e23 w3 hz; have g24 := e24 w3 hz; have g25 := e25 w3 hz
  go_wp2_with fail
  refine (PA.out _).mono ?_
  rintro e w4 ⟨rfl, hy⟩
  replace hz := hz.trans hy
  obtain ⟨⟨r0, r1⟩, r2, r3⟩ := (B3.out.ext hz).two
  go_wp2
  exact ri_done (B3.out.ext hz).set2 (((hX.trans hz).setNew (by simp; omega) _).setNew (by simp; omega) _) rfl rfl _ _ _ HK.out HR.out HC.out

theorem rp_done {n : Nat} {w F : World} {tmps : Array Value} {a b k : Int} (B : Box F n [.int .i64 a, .int .i64 b]) (hC : Ext w F) (h6 : tmps[6]? = some (.pointer (some ⟨n, 0, none⟩))) (h7 : tmps[7]? = some (.int .i64 k)) (X Y C : Int) (hX : X = a) (hY : Y = b) (hK : C = k) :
    bodyPost Try.prog Try.f30 (fun e w' => e = .returned (.tuple #[Pt X Y, .int .i64 C]) ∧ Ext w w') Exit.ret ⟨tmps, []⟩ F := by
  subst hX; subst hY; subst hK
  obtain ⟨⟨g0, g1⟩, _⟩ := B.two
  exact bodyPost_ret (v := .tuple #[Pt X Y, .int .i64 C]) (by simp [results, Try.results30, go_sem, h6, h7, g0, g1]) rfl ⟨rfl, hC⟩

set_option maxHeartbeats 4000000 in
theorem ruleOn_spec (x y a b c d n : Int) (s : Bool) (p q u v m : Int) (t : Bool) (w : World) :
    Calls Try.prog 30 #[Pt x y, Bo a b c d n s, Bo p q u v m t] w fun e w' => e = .returned (.tuple #[Pt (roK x y a b c d n s p q u v m t) (roR x y a b c d n s p q u v m t), .int .i64 (wwC x y a b c d n p q u v m)]) ∧ Ext w w' := by
  obtain ⟨W0, hW0⟩ : ∃ W0, W0 = (((w.alloc (.cells #[.int .i64 x, .int .i64 y] 25)).alloc (.cells #[.int .i64 a, .int .i64 b, .int .i64 c, .int .i64 d, .int .i64 n, .bool s] 41)).alloc (.cells #[.int .i64 p, .int .i64 q, .int .i64 u, .int .i64 v, .int .i64 m, .bool t] 41)).alloc (.cells #[.int .i64 0, .int .i64 0] 34) := ⟨_, rfl⟩
  have hX : Ext w W0 := hW0 ▸ (((((Ext.refl w).alloc _).alloc _).alloc _).alloc _)
  have hs0 : W0.heap.size = w.heap.size + 1 + 1 + 1 + 1 := by rw [hW0]; simp
  have e00 : ∀ w', (Ext W0) w' → w'.cell? ⟨w.heap.size, 0, none⟩ = some (.int .i64 x) := fun w' h => h.cellOf (by rw [hW0]; exact ((((Ext.refl _).alloc _).alloc _).alloc _).cellOf (boxed 0 rfl (by simp)))
  have e01 : ∀ w', (Ext W0) w' → w'.cell? ⟨w.heap.size, 1, none⟩ = some (.int .i64 y) := fun w' h => h.cellOf (by rw [hW0]; exact ((((Ext.refl _).alloc _).alloc _).alloc _).cellOf (boxed 1 rfl (by simp)))
  have e10 : ∀ w', (Ext W0) w' → w'.cell? ⟨w.heap.size + 1, 0, none⟩ = some (.int .i64 a) := fun w' h => h.cellOf (by rw [hW0]; exact (((Ext.refl _).alloc _).alloc _).cellOf (boxed 0 rfl (by simp)))
  have e11 : ∀ w', (Ext W0) w' → w'.cell? ⟨w.heap.size + 1, 1, none⟩ = some (.int .i64 b) := fun w' h => h.cellOf (by rw [hW0]; exact (((Ext.refl _).alloc _).alloc _).cellOf (boxed 1 rfl (by simp)))
  have e12 : ∀ w', (Ext W0) w' → w'.cell? ⟨w.heap.size + 1, 2, none⟩ = some (.int .i64 c) := fun w' h => h.cellOf (by rw [hW0]; exact (((Ext.refl _).alloc _).alloc _).cellOf (boxed 2 rfl (by simp)))
  have e13 : ∀ w', (Ext W0) w' → w'.cell? ⟨w.heap.size + 1, 3, none⟩ = some (.int .i64 d) := fun w' h => h.cellOf (by rw [hW0]; exact (((Ext.refl _).alloc _).alloc _).cellOf (boxed 3 rfl (by simp)))
  have e14 : ∀ w', (Ext W0) w' → w'.cell? ⟨w.heap.size + 1, 4, none⟩ = some (.int .i64 n) := fun w' h => h.cellOf (by rw [hW0]; exact (((Ext.refl _).alloc _).alloc _).cellOf (boxed 4 rfl (by simp)))
  have e15 : ∀ w', (Ext W0) w' → w'.cell? ⟨w.heap.size + 1, 5, none⟩ = some (.bool s) := fun w' h => h.cellOf (by rw [hW0]; exact (((Ext.refl _).alloc _).alloc _).cellOf (boxed 5 rfl (by simp)))
  have e20 : ∀ w', (Ext W0) w' → w'.cell? ⟨w.heap.size + 1 + 1, 0, none⟩ = some (.int .i64 p) := fun w' h => h.cellOf (by rw [hW0]; exact ((Ext.refl _).alloc _).cellOf (boxed 0 rfl (by simp)))
  have e21 : ∀ w', (Ext W0) w' → w'.cell? ⟨w.heap.size + 1 + 1, 1, none⟩ = some (.int .i64 q) := fun w' h => h.cellOf (by rw [hW0]; exact ((Ext.refl _).alloc _).cellOf (boxed 1 rfl (by simp)))
  have e22 : ∀ w', (Ext W0) w' → w'.cell? ⟨w.heap.size + 1 + 1, 2, none⟩ = some (.int .i64 u) := fun w' h => h.cellOf (by rw [hW0]; exact ((Ext.refl _).alloc _).cellOf (boxed 2 rfl (by simp)))
  have e23 : ∀ w', (Ext W0) w' → w'.cell? ⟨w.heap.size + 1 + 1, 3, none⟩ = some (.int .i64 v) := fun w' h => h.cellOf (by rw [hW0]; exact ((Ext.refl _).alloc _).cellOf (boxed 3 rfl (by simp)))
  have e24 : ∀ w', (Ext W0) w' → w'.cell? ⟨w.heap.size + 1 + 1, 4, none⟩ = some (.int .i64 m) := fun w' h => h.cellOf (by rw [hW0]; exact ((Ext.refl _).alloc _).cellOf (boxed 4 rfl (by simp)))
  have e25 : ∀ w', (Ext W0) w' → w'.cell? ⟨w.heap.size + 1 + 1, 5, none⟩ = some (.bool t) := fun w' h => h.cellOf (by rw [hW0]; exact ((Ext.refl _).alloc _).cellOf (boxed 5 rfl (by simp)))
  have e30 : ∀ w', (Ext W0) w' → w'.cell? ⟨w.heap.size + 1 + 1 + 1, 0, none⟩ = some (.int .i64 0) := fun w' h => h.cellOf (by rw [hW0]; exact boxed 0 rfl (by simp))
  have e31 : ∀ w', (Ext W0) w' → w'.cell? ⟨w.heap.size + 1 + 1 + 1, 1, none⟩ = some (.int .i64 0) := fun w' h => h.cellOf (by rw [hW0]; exact boxed 1 rfl (by simp))
  have B3 := Lib.hid (show Box W0 (w.heap.size + 1 + 1 + 1) [.int .i64 0, .int .i64 0] from hW0 ▸ Box.new2 (by simp))
  go_enter Try.func30, Try.ntmps30
  go_wp2_with fail
  rw [← hW0]
  clear hW0
  refine (isWind_spec _ _ _).mono ?_
  rintro e w1 ⟨rfl, hz⟩
  replace hz : Ext W0 w1 := hz
  cases h0 : wdB x y
  · have HB := Lib.hid (show wwB x y a b c d n p q u v m = false by unfold wwB; rw [h0]; rfl)
    have HC := Lib.hid (show wwC x y a b c d n p q u v m = 1 from if_no HB.out)
    have HK := Lib.hid (show roK x y a b c d n s p q u v m t = 0 from if_no HB.out)
    have HR := Lib.hid (show roR x y a b c d n s p q u v m t = 0 from if_no HB.out)
    obtain ⟨⟨r0, r1⟩, r2, r3⟩ := (B3.out.ext hz).two
    go_wp2
    exact rp_done (B3.out.ext hz).set2 (((hX.trans hz).setNew (by simp; omega) _).setNew (by simp; omega) _) rfl rfl _ _ _ HK.out HR.out HC.out
  have g10 := e10 w1 hz; have g11 := e11 w1 hz; have g12 := e12 w1 hz; have g13 := e13 w1 hz; have g14 := e14 w1 hz
  go_wp2_with fail
  refine (isHull_spec _ _ _ _ _ _).mono ?_
  rintro e w2 ⟨rfl, hy⟩
  replace hz := hz.trans hy
  clear hy g10 g11 g12 g13 g14
  cases h1 : hlB a b c d n
  · have HB := Lib.hid (show wwB x y a b c d n p q u v m = false by unfold wwB; rw [h0, h2_no1 h1]; rfl)
    have HC := Lib.hid (show wwC x y a b c d n p q u v m = 1 from if_no HB.out)
    have HK := Lib.hid (show roK x y a b c d n s p q u v m t = 0 from if_no HB.out)
    have HR := Lib.hid (show roR x y a b c d n s p q u v m t = 0 from if_no HB.out)
    obtain ⟨⟨r0, r1⟩, r2, r3⟩ := (B3.out.ext hz).two
    go_wp2
    exact rp_done (B3.out.ext hz).set2 (((hX.trans hz).setNew (by simp; omega) _).setNew (by simp; omega) _) rfl rfl _ _ _ HK.out HR.out HC.out
  have g20 := e20 w2 hz; have g21 := e21 w2 hz; have g22 := e22 w2 hz; have g23 := e23 w2 hz; have g24 := e24 w2 hz
  go_wp2_with fail
  refine (isHull_spec _ _ _ _ _ _).mono ?_
  rintro e w3 ⟨rfl, hy⟩
  replace hz := hz.trans hy
  clear hy g20 g21 g22 g23 g24
  cases h2 : hlB p q u v m
  · have HB := Lib.hid (show wwB x y a b c d n p q u v m = false by unfold wwB; rw [h0, h2_no2 h2]; rfl)
    have HC := Lib.hid (show wwC x y a b c d n p q u v m = 1 from if_no HB.out)
    have HK := Lib.hid (show roK x y a b c d n s p q u v m t = 0 from if_no HB.out)
    have HR := Lib.hid (show roR x y a b c d n s p q u v m t = 0 from if_no HB.out)
    obtain ⟨⟨r0, r1⟩, r2, r3⟩ := (B3.out.ext hz).two
    go_wp2
    exact rp_done (B3.out.ext hz).set2 (((hX.trans hz).setNew (by simp; omega) _).setNew (by simp; omega) _) rfl rfl _ _ _ HK.out HR.out HC.out
  have HB := Lib.hid (show wwB x y a b c d n p q u v m = true by unfold wwB; rw [h0, h2_yes h1 h2]; rfl)
  have HC := Lib.hid (show wwC x y a b c d n p q u v m = 0 from if_yes HB.out)
  have HK := Lib.hid (show roK x y a b c d n s p q u v m t = ruK x y a b c d n s p q u v m t from if_yes HB.out)
  have HR := Lib.hid (show roR x y a b c d n s p q u v m t = ruR x y a b c d n s p q u v m t from if_yes HB.out)
  have PA := Lib.hid (fun w => rule_spec x y a b c d n s p q u v m t w h0 h1 h2)
  generalize ruK x y a b c d n s p q u v m t = K at *
  generalize ruR x y a b c d n s p q u v m t = Q at *
  have g00 := e00 w3 hz; have g01 := e01 w3 hz
  have g10 := e10 w3 hz; have g11 := e11 w3 hz; have g12 := e12 w3 hz; have g13 := e13 w3 hz; have g14 := e14 w3 hz; have g15 := e15 w3 hz
  have g20 := e20 w3 hz; have g21 := e21 w3 hz; have g22 := e22 w3 hz; have g23 := e23 w3 hz; have g24 := e24 w3 hz; have g25 := e25 w3 hz
  go_wp2_with fail
  refine (PA.out _).mono ?_
  rintro e w4 ⟨rfl, hy⟩
  replace hz := hz.trans hy
  obtain ⟨⟨r0, r1⟩, r2, r3⟩ := (B3.out.ext hz).two
  go_wp2
  exact rp_done (B3.out.ext hz).set2 (((hX.trans hz).setNew (by simp; omega) _).setNew (by simp; omega) _) rfl rfl _ _ _ HK.out HR.out HC.out

end Go.Proofs.Ytcangdcakgcpaaa.Rul
