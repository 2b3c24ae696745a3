import Derived.Test.YtknelhceaoblhaaGreatHul5
import Derived.Test.YtknelhceaoblhaaGreatWin2
import Derived.Test.YtknelhceaoblhaaGreatMRel3
import Derived.Test.YtknelhceaoblhaaGreatMPts
namespace Go.Proofs.YtknelhceaoblhaaGreat.Hul
open Go.ChangeShapes Go.WideShapes Go.ChangeAt Go.RowKit
open Go.Proofs.YtknelhceaoblhaaGreat.Num Go.Proofs.YtknelhceaoblhaaGreat.Kit Go.Proofs.YtknelhceaoblhaaGreat.Pts Go.Proofs.YtknelhceaoblhaaGreat.Seg Go.Proofs.YtknelhceaoblhaaGreat.Wnd
open Go.Proofs.YtknelhceaoblhaaGreat.Win (wiB isNear_any)
set_option linter.unusedVariables false
set_option linter.unusedSimpArgs false
def enB (a b c d p q u v r : Int) : Bool := wiB p q u v a b r || wiB p q u v c d r
def nrB (a b c d p q u v r : Int) : Bool := hvB a b c d p q u v false || enB a b c d p q u v r || enB p q u v a b c d r
def axB (a b c d n : Int) : Bool := sgB (stX a c d n) (stY b c d n) a b
def hnC (a b c d n p q u v m r : Int) : Int := if h2B a b c d n p q u v m = true then (if inB r 0 10000 = true ∧ axB a b c d n = true ∧ axB p q u v m = true then 0 else 2) else 1
def hnN (a b c d n p q u v m r : Int) : Bool := nrB (stX a c d n) (stY b c d n) a b (stX p u v m) (stY q u v m) p q r
def hnB (a b c d n p q u v m r : Int) : Bool := if hnC a b c d n p q u v m r = 0 then hnN a b c d n p q u v m r else false
theorem hasEndNear_any (a b c d p q u v r : Int) (w : World) (h : sgB a b c d = true) (g : sgB p q u v = true) (r0 : 0 ≤ r) (r1 : r ≤ 10000) :
    Calls Tryz.prog 126 #[Sg a b c d, Sg p q u v, .int .i64 r] w fun e w' => e = .returned (.bool (enB a b c d p q u v r)) ∧ Ext w w' := by
  obtain ⟨⟨ha, hb, hc, hd⟩, hn⟩ := sgB_yes h
  obtain ⟨⟨hp, hq, hu, hv⟩, gn⟩ := sgB_yes g
  have PA := Lib.hid (fun w => isNear_any p q u v a b r w hp hq hu hv ha hb gn r0 r1)
  have PB := Lib.hid (fun w => isNear_any p q u v c d r w hp hq hu hv hc hd gn r0 r1)
  have HE := Lib.hid (show enB a b c d p q u v r = (wiB p q u v a b r || wiB p q u v c d r) from rfl)
  generalize wiB p q u v a b r = X at *
  generalize wiB p q u v c d r = Y at *
  clear h g ha hb hc hd hn hp hq hu hv gn r0 r1
  obtain ⟨W0, hW0⟩ : ∃ W0, W0 = (w.alloc (.cells #[.int .i64 a, .int .i64 b, .int .i64 c, .int .i64 d] 144)).alloc (.cells #[.int .i64 p, .int .i64 q, .int .i64 u, .int .i64 v] 144) := ⟨_, rfl⟩
  have hX : Ext w W0 := hW0 ▸ (((Ext.refl w).alloc _).alloc _)
  have hs0 : W0.heap.size = w.heap.size + 1 + 1 := by rw [hW0]; simp
  have e00 : ∀ w', (Ext W0) w' → w'.cell? ⟨w.heap.size, 0, none⟩ = some (.int .i64 a) := fun w' h => h.cellOf (by rw [hW0]; exact ((Ext.refl _).alloc _).cellOf (boxed 0 rfl (by simp)))
  have e01 : ∀ w', (Ext W0) w' → w'.cell? ⟨w.heap.size, 1, none⟩ = some (.int .i64 b) := fun w' h => h.cellOf (by rw [hW0]; exact ((Ext.refl _).alloc _).cellOf (boxed 1 rfl (by simp)))
  have e02 : ∀ w', (Ext W0) w' → w'.cell? ⟨w.heap.size, 2, none⟩ = some (.int .i64 c) := fun w' h => h.cellOf (by rw [hW0]; exact ((Ext.refl _).alloc _).cellOf (boxed 2 rfl (by simp)))
  have e03 : ∀ w', (Ext W0) w' → w'.cell? ⟨w.heap.size, 3, none⟩ = some (.int .i64 d) := fun w' h => h.cellOf (by rw [hW0]; exact ((Ext.refl _).alloc _).cellOf (boxed 3 rfl (by simp)))
  have e10 : ∀ w', (Ext W0) w' → w'.cell? ⟨w.heap.size + 1, 0, none⟩ = some (.int .i64 p) := fun w' h => h.cellOf (by rw [hW0]; exact boxed 0 rfl (by simp))
  have e11 : ∀ w', (Ext W0) w' → w'.cell? ⟨w.heap.size + 1, 1, none⟩ = some (.int .i64 q) := fun w' h => h.cellOf (by rw [hW0]; exact boxed 1 rfl (by simp))
  have e12 : ∀ w', (Ext W0) w' → w'.cell? ⟨w.heap.size + 1, 2, none⟩ = some (.int .i64 u) := fun w' h => h.cellOf (by rw [hW0]; exact boxed 2 rfl (by simp))
  have e13 : ∀ w', (Ext W0) w' → w'.cell? ⟨w.heap.size + 1, 3, none⟩ = some (.int .i64 v) := fun w' h => h.cellOf (by rw [hW0]; exact boxed 3 rfl (by simp))
  go_enter Tryz.func126, Tryz.ntmps126
  go_wp2_with fail
  rw [← hW0]
  clear hW0
  refine (PA.out _).mono ?_
  rintro e w1 ⟨rfl, hz⟩
  cases X
  · have g00 := e02 w1 hz; have g01 := e03 w1 hz
    have g10 := e10 w1 hz; have g11 := e11 w1 hz; have g12 := e12 w1 hz; have g13 := e13 w1 hz
    go_wp2_with fail
    refine (PB.out _).mono ?_
    rintro e w2 ⟨rfl, hy⟩
    go_wp2
    go_ret
    exact ⟨ret_bool HE.out, hX.trans (hz.trans hy)⟩
  · go_wp2
    go_ret
    exact ⟨ret_bool HE.out, hX.trans hz⟩
end Go.Proofs.YtknelhceaoblhaaGreat.Hul
