/- What SternOf answers (chapter 9), both. -/
import Derived.Test.YtdcnfeimfpafiaaHul5
namespace Go.Proofs.Ytdcnfeimfpafiaa.Hul
open Go.ChangeShapes Go.WideShapes Go.ChangeAt Go.RowKit
open Go.Proofs.Ytdcnfeimfpafiaa.Num Go.Proofs.Ytdcnfeimfpafiaa.Kit Go.Proofs.Ytdcnfeimfpafiaa.Pts Go.Proofs.Ytdcnfeimfpafiaa.Seg Go.Proofs.Ytdcnfeimfpafiaa.Wnd
open Go.Proofs.Ytdcnfeimfpafiaa.Lth (ln2 ln2_pos length_any sqs_bd)
set_option linter.unusedVariables false
set_option linter.unusedSimpArgs false

theorem soI_done {n : Nat} {w F : World} {tmps : Array Value} {x y k X Y K : Int} (B : Box F n [.int .i64 x, .int .i64 y]) (hC : Ext w F) (h2 : tmps[2]? = some (.pointer (some ⟨n, 0, none⟩))) (h3 : tmps[3]? = some (.int .i64 k)) (hX : X = x) (hY : Y = y) (hK : K = k) :
    bodyPost Try.prog Try.f22 (fun e w' => e = .returned (.tuple #[Pt X Y, .int .i64 K]) ∧ Ext w w') Exit.ret ⟨tmps, []⟩ F := by
  subst hX; subst hY; subst hK
  obtain ⟨⟨q0, q1⟩, _⟩ := B.two
  exact bodyPost_ret (v := .tuple #[Pt X Y, .int .i64 K]) (by simp [results, Try.results22, go_sem, h2, h3, q0, q1]) rfl ⟨rfl, hC⟩

set_option maxHeartbeats 1000000 in
theorem sternOf_impl (a b c d n : Int) (w : World) : Calls Try.prog 22 #[Hv a b c d n] w fun e w' => e = .returned (.tuple #[Pt (soX a b c d n) (soY a b c d n), .int .i64 (soC a b c d n)]) ∧ Ext w w' := by
  obtain ⟨W0, hW0⟩ : ∃ W0, W0 = (w.alloc (.cells #[.int .i64 a, .int .i64 b, .int .i64 c, .int .i64 d, .int .i64 n] 27)).alloc (.cells #[.int .i64 0, .int .i64 0] 25) := ⟨_, rfl⟩
  have hX : Ext w W0 := hW0 ▸ (((Ext.refl w).alloc _).alloc _)
  have hs0 : W0.heap.size = w.heap.size + 1 + 1 := by rw [hW0]; simp
  have e00 : ∀ w', (Ext W0) w' → w'.cell? ⟨w.heap.size, 0, none⟩ = some (.int .i64 a) := fun w' h => h.cellOf (by rw [hW0]; exact ((Ext.refl _).alloc _).cellOf (boxed 0 rfl (by simp)))
  have e01 : ∀ w', (Ext W0) w' → w'.cell? ⟨w.heap.size, 1, none⟩ = some (.int .i64 b) := fun w' h => h.cellOf (by rw [hW0]; exact ((Ext.refl _).alloc _).cellOf (boxed 1 rfl (by simp)))
  have e02 : ∀ w', (Ext W0) w' → w'.cell? ⟨w.heap.size, 2, none⟩ = some (.int .i64 c) := fun w' h => h.cellOf (by rw [hW0]; exact ((Ext.refl _).alloc _).cellOf (boxed 2 rfl (by simp)))
  have e03 : ∀ w', (Ext W0) w' → w'.cell? ⟨w.heap.size, 3, none⟩ = some (.int .i64 d) := fun w' h => h.cellOf (by rw [hW0]; exact ((Ext.refl _).alloc _).cellOf (boxed 3 rfl (by simp)))
  have e04 : ∀ w', (Ext W0) w' → w'.cell? ⟨w.heap.size, 4, none⟩ = some (.int .i64 n) := fun w' h => h.cellOf (by rw [hW0]; exact ((Ext.refl _).alloc _).cellOf (boxed 4 rfl (by simp)))
  have e10 : ∀ w', (Ext W0) w' → w'.cell? ⟨w.heap.size + 1, 0, none⟩ = some (.int .i64 0) := fun w' h => h.cellOf (by rw [hW0]; exact boxed 0 rfl (by simp))
  have e11 : ∀ w', (Ext W0) w' → w'.cell? ⟨w.heap.size + 1, 1, none⟩ = some (.int .i64 0) := fun w' h => h.cellOf (by rw [hW0]; exact boxed 1 rfl (by simp))
  have B2 := Lib.hid (show Box W0 (w.heap.size + 1) [.int .i64 0, .int .i64 0] from hW0 ▸ Box.new2 (by simp))
  go_enter Try.func22, Try.ntmps22
  go_wp2_with fail
  rw [← hW0]
  clear hW0
  refine (hullValid_any _ _ _ _ _ _).mono ?_
  rintro e w1 ⟨rfl, hz⟩
  cases h1 : hlB a b c d n
  · have HX := Lib.hid (show soX a b c d n = 0 from if_no h1)
    have HY := Lib.hid (show soY a b c d n = 0 from if_no h1)
    have HC := Lib.hid (show soC a b c d n = 1 from if_no h1)
    have XR := Lib.hid (((hX.trans hz).setNew (p := ⟨w.heap.size + 1, 0, none⟩) (by simp) (.int .i64 0)).setNew (p := ⟨w.heap.size + 1, 1, none⟩) (by simp) (.int .i64 0))
    obtain ⟨⟨r0, r1⟩, r2, r3⟩ := (B2.out.ext hz).two
    have BR := Lib.hid ((B2.out.ext hz).set2 (u := .int .i64 0) (v := .int .i64 0))
    clear e00 e01 e02 e03 e04 e10 e11 hX hz B2
    go_wp2
    exact soI_done BR.out XR.out rfl rfl HX.out HY.out HC.out
  · have HX := Lib.hid (show soX a b c d n = stX a c d n from if_yes h1)
    have HY := Lib.hid (show soY a b c d n = stY b c d n from if_yes h1)
    have HC := Lib.hid (show soC a b c d n = 0 from if_yes h1)
    have PS := Lib.hid (fun w => sternI_any a b c d n w h1)
    obtain ⟨E, hE⟩ : ∃ E, E = stX a c d n := ⟨_, rfl⟩
    obtain ⟨F, hF⟩ : ∃ F, F = stY b c d n := ⟨_, rfl⟩
    rw [← hE] at HX PS
    rw [← hF] at HY PS
    clear hE hF h1
    have g00 := e00 w1 hz; have g01 := e01 w1 hz; have g02 := e02 w1 hz; have g03 := e03 w1 hz; have g04 := e04 w1 hz
    go_wp2_with fail
    refine (PS.out _).mono ?_
    rintro e w2 ⟨rfl, hy⟩
    replace hz := hz.trans hy
    have XR := Lib.hid (((hX.trans hz).setNew (p := ⟨w.heap.size + 1, 0, none⟩) (by simp) (.int .i64 E)).setNew (p := ⟨w.heap.size + 1, 1, none⟩) (by simp) (.int .i64 F))
    obtain ⟨⟨r0, r1⟩, r2, r3⟩ := (B2.out.ext hz).two
    have BR := Lib.hid ((B2.out.ext hz).set2 (u := .int .i64 E) (v := .int .i64 F))
    clear e00 e01 e02 e03 e04 e10 e11 hX hz B2 g00 g01 g02 g03 g04 hy
    go_wp2
    exact soI_done BR.out XR.out rfl rfl HX.out HY.out HC.out

theorem soS_done {n : Nat} {w F : World} {tmps : Array Value} {x y k X Y K : Int} (B : Box F n [.int .i64 x, .int .i64 y]) (hC : Ext w F) (h2 : tmps[2]? = some (.pointer (some ⟨n, 0, none⟩))) (h3 : tmps[3]? = some (.int .i64 k)) (hX : X = x) (hY : Y = y) (hK : K = k) :
    bodyPost Try.prog Try.f23 (fun e w' => e = .returned (.tuple #[Pt X Y, .int .i64 K]) ∧ Ext w w') Exit.ret ⟨tmps, []⟩ F := by
  subst hX; subst hY; subst hK
  obtain ⟨⟨q0, q1⟩, _⟩ := B.two
  exact bodyPost_ret (v := .tuple #[Pt X Y, .int .i64 K]) (by simp [results, Try.results23, go_sem, h2, h3, q0, q1]) rfl ⟨rfl, hC⟩

set_option maxHeartbeats 1000000 in
theorem sternOf_spec (a b c d n : Int) (w : World) : Calls Try.prog 23 #[Hv a b c d n] w fun e w' => e = .returned (.tuple #[Pt (soX a b c d n) (soY a b c d n), .int .i64 (soC a b c d n)]) ∧ Ext w w' := by
  obtain ⟨W0, hW0⟩ : ∃ W0, W0 = (w.alloc (.cells #[.int .i64 a, .int .i64 b, .int .i64 c, .int .i64 d, .int .i64 n] 27)).alloc (.cells #[.int .i64 0, .int .i64 0] 25) := ⟨_, rfl⟩
  have hX : Ext w W0 := hW0 ▸ (((Ext.refl w).alloc _).alloc _)
  have hs0 : W0.heap.size = w.heap.size + 1 + 1 := by rw [hW0]; simp
  have e00 : ∀ w', (Ext W0) w' → w'.cell? ⟨w.heap.size, 0, none⟩ = some (.int .i64 a) := fun w' h => h.cellOf (by rw [hW0]; exact ((Ext.refl _).alloc _).cellOf (boxed 0 rfl (by simp)))
  have e01 : ∀ w', (Ext W0) w' → w'.cell? ⟨w.heap.size, 1, none⟩ = some (.int .i64 b) := fun w' h => h.cellOf (by rw [hW0]; exact ((Ext.refl _).alloc _).cellOf (boxed 1 rfl (by simp)))
  have e02 : ∀ w', (Ext W0) w' → w'.cell? ⟨w.heap.size, 2, none⟩ = some (.int .i64 c) := fun w' h => h.cellOf (by rw [hW0]; exact ((Ext.refl _).alloc _).cellOf (boxed 2 rfl (by simp)))
  have e03 : ∀ w', (Ext W0) w' → w'.cell? ⟨w.heap.size, 3, none⟩ = some (.int .i64 d) := fun w' h => h.cellOf (by rw [hW0]; exact ((Ext.refl _).alloc _).cellOf (boxed 3 rfl (by simp)))
  have e04 : ∀ w', (Ext W0) w' → w'.cell? ⟨w.heap.size, 4, none⟩ = some (.int .i64 n) := fun w' h => h.cellOf (by rw [hW0]; exact ((Ext.refl _).alloc _).cellOf (boxed 4 rfl (by simp)))
  have e10 : ∀ w', (Ext W0) w' → w'.cell? ⟨w.heap.size + 1, 0, none⟩ = some (.int .i64 0) := fun w' h => h.cellOf (by rw [hW0]; exact boxed 0 rfl (by simp))
  have e11 : ∀ w', (Ext W0) w' → w'.cell? ⟨w.heap.size + 1, 1, none⟩ = some (.int .i64 0) := fun w' h => h.cellOf (by rw [hW0]; exact boxed 1 rfl (by simp))
  have B2 := Lib.hid (show Box W0 (w.heap.size + 1) [.int .i64 0, .int .i64 0] from hW0 ▸ Box.new2 (by simp))
  go_enter Try.func23, Try.ntmps23
  go_wp2_with fail
  rw [← hW0]
  clear hW0
  refine (isHull_spec _ _ _ _ _ _).mono ?_
  rintro e w1 ⟨rfl, hz⟩
  cases h1 : hlB a b c d n
  · have HX := Lib.hid (show soX a b c d n = 0 from if_no h1)
    have HY := Lib.hid (show soY a b c d n = 0 from if_no h1)
    have HC := Lib.hid (show soC a b c d n = 1 from if_no h1)
    have XR := Lib.hid (((hX.trans hz).setNew (p := ⟨w.heap.size + 1, 0, none⟩) (by simp) (.int .i64 0)).setNew (p := ⟨w.heap.size + 1, 1, none⟩) (by simp) (.int .i64 0))
    obtain ⟨⟨r0, r1⟩, r2, r3⟩ := (B2.out.ext hz).two
    have BR := Lib.hid ((B2.out.ext hz).set2 (u := .int .i64 0) (v := .int .i64 0))
    clear e00 e01 e02 e03 e04 e10 e11 hX hz B2
    go_wp2
    exact soS_done BR.out XR.out rfl rfl HX.out HY.out HC.out
  · have HX := Lib.hid (show soX a b c d n = stX a c d n from if_yes h1)
    have HY := Lib.hid (show soY a b c d n = stY b c d n from if_yes h1)
    have HC := Lib.hid (show soC a b c d n = 0 from if_yes h1)
    have PS := Lib.hid (fun w => sternS_any a b c d n w h1)
    obtain ⟨E, hE⟩ : ∃ E, E = stX a c d n := ⟨_, rfl⟩
    obtain ⟨F, hF⟩ : ∃ F, F = stY b c d n := ⟨_, rfl⟩
    rw [← hE] at HX PS
    rw [← hF] at HY PS
    clear hE hF h1
    have g00 := e00 w1 hz; have g01 := e01 w1 hz; have g02 := e02 w1 hz; have g03 := e03 w1 hz; have g04 := e04 w1 hz
    go_wp2_with fail
    refine (PS.out _).mono ?_
    rintro e w2 ⟨rfl, hy⟩
    replace hz := hz.trans hy
    have XR := Lib.hid (((hX.trans hz).setNew (p := ⟨w.heap.size + 1, 0, none⟩) (by simp) (.int .i64 E)).setNew (p := ⟨w.heap.size + 1, 1, none⟩) (by simp) (.int .i64 F))
    obtain ⟨⟨r0, r1⟩, r2, r3⟩ := (B2.out.ext hz).two
    have BR := Lib.hid ((B2.out.ext hz).set2 (u := .int .i64 E) (v := .int .i64 F))
    clear e00 e01 e02 e03 e04 e10 e11 hX hz B2 g00 g01 g02 g03 g04 hy
    go_wp2
    exact soS_done BR.out XR.out rfl rfl HX.out HY.out HC.out

end Go.Proofs.Ytdcnfeimfpafiaa.Hul
