/- Hulls of the laws as hulls of the program, and comparing hulls (chapter 9's laws). -/
import Derived.Test.YtcangdcakgcpaaaHul
import Derived.Test.YtcangdcakgcpaaaBxs
namespace Go.Proofs.Ytcangdcakgcpaaa.Hul
open Go.ChangeShapes Go.WideShapes Go.ChangeAt Go.RowKit
open Go.Proofs.Ytcangdcakgcpaaa.Num Go.Proofs.Ytcangdcakgcpaaa.Kit Go.Proofs.Ytcangdcakgcpaaa.Pts Go.Proofs.Ytcangdcakgcpaaa.Seg Go.Proofs.Ytcangdcakgcpaaa.Wnd
set_option linter.unusedVariables false
set_option linter.unusedSimpArgs false

theorem th_done {n : Nat} {w F : World} {tmps : Array Value} {a b c d e : Int} (B : Box F n [.int .i64 a, .int .i64 b, .int .i64 c, .int .i64 d, .int .i64 e]) (hC : Ext w F) (h2 : tmps[2]? = some (.pointer (some ⟨n, 0, none⟩))) :
    bodyPost Try.prog Try.f28 (fun x w' => x = .returned (Hv a b c d e) ∧ Ext w w') Exit.ret ⟨tmps, []⟩ F := by
  obtain ⟨⟨g0, g1, g2, g3, g4⟩, _⟩ := B.five
  exact bodyPost_ret (v := Hv a b c d e) (by simp [results, Try.results28, go_sem, h2, g0, g1, g2, g3, g4]) rfl ⟨rfl, hC⟩

set_option maxHeartbeats 1000000 in
theorem toHull_any (a b c d n : Int) (w : World) : Calls Try.prog 28 #[Hv a b c d n] w fun e w' => e = .returned (Hv a b c d n) ∧ Ext w w' := by
  obtain ⟨W0, hW0⟩ : ∃ W0, W0 = ((w.alloc (.cells #[.int .i64 a, .int .i64 b, .int .i64 c, .int .i64 d, .int .i64 n] 60)).alloc (.cells #[.int .i64 0, .int .i64 0, .int .i64 0, .int .i64 0, .int .i64 0] 39)).alloc (.cells #[.int .i64 0, .int .i64 0, .int .i64 0, .int .i64 0, .int .i64 0] 39) := ⟨_, rfl⟩
  have X0 : BX w (w.heap.size + 3) [(w.heap.size, [.int .i64 a, .int .i64 b, .int .i64 c, .int .i64 d, .int .i64 n]), (w.heap.size + 1, [.int .i64 0, .int .i64 0, .int .i64 0, .int .i64 0, .int .i64 0]), (w.heap.size + 1 + 1, [.int .i64 0, .int .i64 0, .int .i64 0, .int .i64 0, .int .i64 0])] W0 :=
    hW0 ▸ (((BX.nil w (w.heap.size + 3)).add [.int .i64 a, .int .i64 b, .int .i64 c, .int .i64 d, .int .i64 n] 60 rfl (by omega)).add [.int .i64 0, .int .i64 0, .int .i64 0, .int .i64 0, .int .i64 0] 39 (by simp) (by omega)).add [.int .i64 0, .int .i64 0, .int .i64 0, .int .i64 0, .int .i64 0] 39 (by simp) (by omega)
  obtain ⟨⟨f0, f1, _⟩, _⟩ := (X0.box 0 _ rfl).five
  go_enter Try.func28, Try.ntmps28
  go_wp2_with fail
  rw [← hW0]
  clear hW0
  refine (toPoint_any _ _ _).mono ?_
  rintro e w1 ⟨rfl, hy⟩
  have X1 := X0.ext hy
  obtain ⟨⟨v0, v1, v2, v3, v4⟩, u0, u1, u2, u3, u4⟩ := (X1.box 2 _ rfl).five
  clear f0 f1 X0 hy
  obtain ⟨W1, hW1⟩ : ∃ W1, W1 = (w1.setCell ⟨w.heap.size + 1 + 1, 0, none⟩ (.int .i64 a)).setCell ⟨w.heap.size + 1 + 1, 1, none⟩ (.int .i64 b) := ⟨_, rfl⟩
  have X2 := hW1 ▸ (X1.put 2 0 rfl (by simp) (.int .i64 a)).put 2 1 rfl (by simp) (.int .i64 b)
  go_upto_region 3 with fail
  rw [← hW1]
  clear hW1 v0 v1 v2 v3 v4 u0 u1 u2 u3 u4 X1
  obtain ⟨⟨_, _, f2, f3, _⟩, _⟩ := (X2.box 0 _ rfl).five
  go_wp2_with fail
  refine (toPoint_any _ _ _).mono ?_
  rintro e w2 ⟨rfl, hy⟩
  have X3 := X2.ext hy
  obtain ⟨⟨v0, v1, v2, v3, v4⟩, u0, u1, u2, u3, u4⟩ := (X3.box 2 _ rfl).five
  clear f2 f3 X2 hy
  obtain ⟨W2, hW2⟩ : ∃ W2, W2 = (w2.setCell ⟨w.heap.size + 1 + 1, 2, none⟩ (.int .i64 c)).setCell ⟨w.heap.size + 1 + 1, 3, none⟩ (.int .i64 d) := ⟨_, rfl⟩
  have X4 := hW2 ▸ (X3.put 2 2 rfl (by simp) (.int .i64 c)).put 2 3 rfl (by simp) (.int .i64 d)
  go_upto_region 4 with fail
  rw [← hW2]
  clear hW2 v0 v1 v2 v3 v4 u0 u1 u2 u3 u4 X3
  obtain ⟨⟨_, _, _, _, f4⟩, _⟩ := (X4.box 0 _ rfl).five
  obtain ⟨⟨v0, v1, v2, v3, v4⟩, u0, u1, u2, u3, u4⟩ := (X4.box 2 _ rfl).five
  obtain ⟨W3, hW3⟩ : ∃ W3, W3 = W2.setCell ⟨w.heap.size + 1 + 1, 4, none⟩ (.int .i64 n) := ⟨_, rfl⟩
  have X5 := hW3 ▸ X4.put 2 4 rfl (by simp) (.int .i64 n)
  go_upto_region 5 with fail
  rw [← hW3]
  clear hW3 v0 v1 v2 v3 v4 u0 u1 u2 u3 u4 X4 f4
  obtain ⟨⟨v0, v1, v2, v3, v4⟩, u0, u1, u2, u3, u4⟩ := (X5.box 2 _ rfl).five
  obtain ⟨⟨r0, r1, r2, r3, r4⟩, s0, s1, s2, s3, s4⟩ := (X5.box 1 _ rfl).five
  have X6 := ((((X5.put 1 0 rfl (by simp) (.int .i64 a)).put 1 1 rfl (by simp) (.int .i64 b)).put 1 2 rfl (by simp) (.int .i64 c)).put 1 3 rfl (by simp) (.int .i64 d)).put 1 4 rfl (by simp) (.int .i64 n)
  go_wp2
  exact th_done (X6.box 1 _ rfl) (X6.to (Ext.refl w) (by omega)) rfl

set_option maxHeartbeats 1000000 in
theorem eqHull_same (a b c d n : Int) (w : World) : Calls Try.prog 100 #[Hv a b c d n, Hv a b c d n] w fun e w' => e = .returned (.bool true) ∧ Ext w w' := by
  obtain ⟨W0, hW0⟩ : ∃ W0, W0 = (w.alloc (.cells #[.int .i64 a, .int .i64 b, .int .i64 c, .int .i64 d, .int .i64 n] 39)).alloc (.cells #[.int .i64 a, .int .i64 b, .int .i64 c, .int .i64 d, .int .i64 n] 39) := ⟨_, rfl⟩
  have hX : Ext w W0 := hW0 ▸ (((Ext.refl w).alloc _).alloc _)
  have hs0 : W0.heap.size = w.heap.size + 1 + 1 := by rw [hW0]; simp
  have e00 : ∀ w', (Ext W0) w' → w'.cell? ⟨w.heap.size, 0, none⟩ = some (.int .i64 a) := fun w' h => h.cellOf (by rw [hW0]; exact ((Ext.refl _).alloc _).cellOf (boxed 0 rfl (by simp)))
  have e01 : ∀ w', (Ext W0) w' → w'.cell? ⟨w.heap.size, 1, none⟩ = some (.int .i64 b) := fun w' h => h.cellOf (by rw [hW0]; exact ((Ext.refl _).alloc _).cellOf (boxed 1 rfl (by simp)))
  have e02 : ∀ w', (Ext W0) w' → w'.cell? ⟨w.heap.size, 2, none⟩ = some (.int .i64 c) := fun w' h => h.cellOf (by rw [hW0]; exact ((Ext.refl _).alloc _).cellOf (boxed 2 rfl (by simp)))
  have e03 : ∀ w', (Ext W0) w' → w'.cell? ⟨w.heap.size, 3, none⟩ = some (.int .i64 d) := fun w' h => h.cellOf (by rw [hW0]; exact ((Ext.refl _).alloc _).cellOf (boxed 3 rfl (by simp)))
  have e04 : ∀ w', (Ext W0) w' → w'.cell? ⟨w.heap.size, 4, none⟩ = some (.int .i64 n) := fun w' h => h.cellOf (by rw [hW0]; exact ((Ext.refl _).alloc _).cellOf (boxed 4 rfl (by simp)))
  have e10 : ∀ w', (Ext W0) w' → w'.cell? ⟨w.heap.size + 1, 0, none⟩ = some (.int .i64 a) := fun w' h => h.cellOf (by rw [hW0]; exact boxed 0 rfl (by simp))
  have e11 : ∀ w', (Ext W0) w' → w'.cell? ⟨w.heap.size + 1, 1, none⟩ = some (.int .i64 b) := fun w' h => h.cellOf (by rw [hW0]; exact boxed 1 rfl (by simp))
  have e12 : ∀ w', (Ext W0) w' → w'.cell? ⟨w.heap.size + 1, 2, none⟩ = some (.int .i64 c) := fun w' h => h.cellOf (by rw [hW0]; exact boxed 2 rfl (by simp))
  have e13 : ∀ w', (Ext W0) w' → w'.cell? ⟨w.heap.size + 1, 3, none⟩ = some (.int .i64 d) := fun w' h => h.cellOf (by rw [hW0]; exact boxed 3 rfl (by simp))
  have e14 : ∀ w', (Ext W0) w' → w'.cell? ⟨w.heap.size + 1, 4, none⟩ = some (.int .i64 n) := fun w' h => h.cellOf (by rw [hW0]; exact boxed 4 rfl (by simp))
  go_enter Try.func100, Try.ntmps100
  go_wp2_with fail
  rw [← hW0]
  clear hW0
  refine (eqPoint_same _ _ _).mono ?_
  rintro e w1 ⟨rfl, hz⟩
  have g02 := e02 w1 hz; have g03 := e03 w1 hz; have g12 := e12 w1 hz; have g13 := e13 w1 hz
  go_wp2_with fail
  refine (eqPoint_same _ _ _).mono ?_
  rintro e w2 ⟨rfl, hy⟩
  have hz2 := hz.trans hy
  have g04 := e04 w2 hz2; have g14 := e14 w2 hz2
  go_wp2
  go_ret
  exact ⟨rfl, hX.trans hz2⟩

end Go.Proofs.Ytcangdcakgcpaaa.Hul
