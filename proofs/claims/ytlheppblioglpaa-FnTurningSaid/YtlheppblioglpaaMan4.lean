/- ManoeuvresOf of both. -/
import Derived.Test.YtlheppblioglpaaMan2
import Derived.Test.YtlheppblioglpaaMan3
namespace Go.Proofs.Ytlheppblioglpaa.Wnd
open Go.ChangeShapes Go.WideShapes Go.ChangeAt Go.RowKit
open Go.Proofs.Ytlheppblioglpaa.Num Go.Proofs.Ytlheppblioglpaa.Kit Go.Proofs.Ytlheppblioglpaa.Pts Go.Proofs.Ytlheppblioglpaa.Seg Go.Proofs.Ytlheppblioglpaa.Gcd Go.Proofs.Ytlheppblioglpaa.Rt Go.Proofs.Ytlheppblioglpaa.Root
open Go.Proofs.Ytlheppblioglpaa.Mnv (M2 Mxs OwnM)
open Go.Proofs.Ytlheppblioglpaa.Trk (F3 Fxs Tr trB fx trB_yes trackValid_any isTrack_spec)
set_option linter.unusedVariables false
set_option linter.unusedSimpArgs false

set_option maxRecDepth 100000 in
set_option maxHeartbeats 2000000 in
theorem manoeuvresOf_impl (x y : Int) (a : Option Addr) (cap : Nat) (fs : List F3) (w : World) (hf : Fxs w a fs) :
    Calls Try.prog 54 #[Pt x y, Tr (.slice a fs.length cap)] w fun e w' => ∃ v, e = .returned (.tuple #[v, .int .i64 (moC x y fs)]) ∧ OwnM w' w.heap.size v (moL x y fs) ∧ Ext w w' := by
  have HF := Lib.hid hf
  clear hf
  obtain ⟨W0, hW0⟩ : ∃ W0, W0 = (w.alloc (.cells #[.int .i64 x, .int .i64 y] 25)).alloc (.cells #[.slice a fs.length cap] 46) := ⟨_, rfl⟩
  have hX : Ext w W0 := hW0 ▸ (((Ext.refl w).alloc _).alloc _)
  have hs0 : W0.heap.size = w.heap.size + 1 + 1 := by rw [hW0]; simp
  have e00 : ∀ w', (Ext W0) w' → w'.cell? ⟨w.heap.size, 0, none⟩ = some (.int .i64 x) := fun w' h => h.cellOf (by rw [hW0]; exact ((Ext.refl _).alloc _).cellOf (boxed 0 rfl (by simp)))
  have e01 : ∀ w', (Ext W0) w' → w'.cell? ⟨w.heap.size, 1, none⟩ = some (.int .i64 y) := fun w' h => h.cellOf (by rw [hW0]; exact ((Ext.refl _).alloc _).cellOf (boxed 1 rfl (by simp)))
  have e10 : ∀ w', (Ext W0) w' → w'.cell? ⟨w.heap.size + 1, 0, none⟩ = some (.slice a fs.length cap) := fun w' h => h.cellOf (by rw [hW0]; exact boxed 0 rfl (by simp))
  have q00 := e00 W0 (Ext.refl W0)
  have q01 := e01 W0 (Ext.refl W0)
  go_enter Try.func54, Try.ntmps54
  go_wp2_with fail
  refine (windValid_any _ _ _).mono ?_
  rintro e w1 ⟨rfl, hz⟩
  rw [← hW0] at hz
  clear hW0 q00 q01
  replace hz : Ext W0 w1 := hz
  cases h1 : wdB x y
  · have HE := Lib.hid (mo_no1 (fs := fs) h1)
    go_wp2
    rw [HE.out.1, HE.out.2]
    go_ret2
    exact ⟨_, rfl, OwnM.nil _ _, hX.trans hz⟩
  have g10 := e10 w1 hz
  go_wp2_with fail
  refine (trackValid_any _ _ _ _ (HF.out.ext (hX.trans hz))).mono ?_
  rintro e w2 ⟨rfl, hy⟩
  replace hz := hz.trans hy
  clear hy g10
  cases h2 : trB fs
  · have HE := Lib.hid (mo_no2 (x := x) (y := y) h2)
    go_wp2
    rw [HE.out.1, HE.out.2]
    go_ret2
    exact ⟨_, rfl, OwnM.nil _ _, hX.trans hz⟩
  have HE := Lib.hid (mo_yes h1 h2)
  obtain ⟨⟨l2, l40⟩, _⟩ := trB_yes h2
  obtain ⟨W3, hW3⟩ : ∃ W3, W3 = w2.alloc (.cells #[.slice none 0 0] 51) := ⟨_, rfl⟩
  have hx3 : Ext w2 W3 := hW3 ▸ (Ext.refl w2).alloc _
  have B3 : Box W3 w2.heap.size [.slice none 0 0] := hW3 ▸ Box.new (vs := [.slice none 0 0]) rfl
  have F3' := HF.out.ext (hX.trans (hz.trans hx3))
  have hq : ∀ ad, a = some ad → ad.block ≠ w2.heap.size := by
    intro ad e
    rcases (HF.out.ext (hX.trans hz)).2 with h | ⟨b, off, ha, hc⟩
    · rw [h] at l2; simp at l2
    · have hb := World.block_lt_of_cell? w2 _ (hc 0 (by omega)).1
      rw [ha] at e; cases e
      simp at hb ⊢; omega
  have HA := Lib.hid (addManoeuvres_any x y w2.heap.size a cap fs W3 F3' h2 h1 hq B3)
  have hS := Ext.size hX
  have hS2 := Ext.size hz
  have g10 := e10 W3 (hz.trans hx3)
  have g00 := e00 W3 (hz.trans hx3)
  have g01 := e01 W3 (hz.trans hx3)
  clear B3 F3' hq l2 l40
  go_upto_region 4 with fail
  rw [← hW3]
  clear hW3
  go_wp2_with fail
  refine HA.out.mono ?_
  rintro e w4 ⟨rfl, v, hb, hO, hc⟩
  obtain ⟨r0, _⟩ := hb 0 _ rfl
  have HO := Lib.hid (hO.mono (show w.heap.size ≤ W3.heap.size by have := Ext.size hx3; omega))
  have XF := Lib.hid (hc.ext (hX.trans (hz.trans hx3)) (by omega))
  clear hb hO hc g10 g00 g01 HA
  go_wp2
  rw [HE.out.1, HE.out.2]
  go_ret2
  exact ⟨_, rfl, HO.out, XF.out⟩

set_option maxRecDepth 100000 in
set_option maxHeartbeats 2000000 in
theorem manoeuvresOf_spec (x y : Int) (a : Option Addr) (cap : Nat) (fs : List F3) (w : World) (hf : Fxs w a fs) :
    Calls Try.prog 19 #[Pt x y, Tr (.slice a fs.length cap)] w fun e w' => ∃ v, e = .returned (.tuple #[v, .int .i64 (moC x y fs)]) ∧ OwnM w' w.heap.size v (moL x y fs) ∧ Ext w w' := by
  have HF := Lib.hid hf
  clear hf
  have LIT := Lib.hid (fun (w' : World) (h : Ext w w') => show OwnM (w'.alloc (.cells #[] 57)) w.heap.size (.slice (some ⟨w'.heap.size, 0, none⟩) 0 0) [] from World.ownsRow_lit (base := w.heap.size) (e := 57) (size := 2) w' #[] 0 (Ext.size h) (by unfold maxLen; omega) rfl)
  obtain ⟨W0, hW0⟩ : ∃ W0, W0 = (w.alloc (.cells #[.int .i64 x, .int .i64 y] 25)).alloc (.cells #[.slice a fs.length cap] 46) := ⟨_, rfl⟩
  have hX : Ext w W0 := hW0 ▸ (((Ext.refl w).alloc _).alloc _)
  have hs0 : W0.heap.size = w.heap.size + 1 + 1 := by rw [hW0]; simp
  have e00 : ∀ w', (Ext W0) w' → w'.cell? ⟨w.heap.size, 0, none⟩ = some (.int .i64 x) := fun w' h => h.cellOf (by rw [hW0]; exact ((Ext.refl _).alloc _).cellOf (boxed 0 rfl (by simp)))
  have e01 : ∀ w', (Ext W0) w' → w'.cell? ⟨w.heap.size, 1, none⟩ = some (.int .i64 y) := fun w' h => h.cellOf (by rw [hW0]; exact ((Ext.refl _).alloc _).cellOf (boxed 1 rfl (by simp)))
  have e10 : ∀ w', (Ext W0) w' → w'.cell? ⟨w.heap.size + 1, 0, none⟩ = some (.slice a fs.length cap) := fun w' h => h.cellOf (by rw [hW0]; exact boxed 0 rfl (by simp))
  have q00 := e00 W0 (Ext.refl W0)
  have q01 := e01 W0 (Ext.refl W0)
  go_enter Try.func19, Try.ntmps19
  go_wp2_with fail
  refine (isWind_spec _ _ _).mono ?_
  rintro e w1 ⟨rfl, hz⟩
  rw [← hW0] at hz
  clear hW0 q00 q01
  replace hz : Ext W0 w1 := hz
  cases h1 : wdB x y
  · have HE := Lib.hid (mo_no1 (fs := fs) h1)
    go_wp2
    rw [HE.out.1, HE.out.2]
    go_ret2
    exact ⟨_, rfl, LIT.out _ (hX.trans hz), (hX.trans hz).alloc _⟩
  have g10 := e10 w1 hz
  go_wp2_with fail
  refine (isTrack_spec _ _ _ _ (HF.out.ext (hX.trans hz))).mono ?_
  rintro e w2 ⟨rfl, hy⟩
  replace hz := hz.trans hy
  clear hy g10
  cases h2 : trB fs
  · have HE := Lib.hid (mo_no2 (x := x) (y := y) h2)
    go_wp2
    rw [HE.out.1, HE.out.2]
    go_ret2
    exact ⟨_, rfl, LIT.out _ (hX.trans hz), (hX.trans hz).alloc _⟩
  have HE := Lib.hid (mo_yes h1 h2)
  have HS := Lib.hid (manoeuvres_spec x y a cap fs w2 (HF.out.ext (hX.trans hz)) h2 h1)
  have hS := Ext.size (hX.trans hz)
  have g10 := e10 w2 hz
  have g00 := e00 w2 hz
  have g01 := e01 w2 hz
  go_wp2_with fail
  refine HS.out.mono ?_
  rintro e w3 ⟨v, rfl, hO, hy⟩
  have HO := Lib.hid (hO.mono hS)
  clear hO
  go_wp2
  rw [HE.out.1, HE.out.2]
  go_ret2
  exact ⟨_, rfl, HO.out, hX.trans (hz.trans hy)⟩

end Go.Proofs.Ytlheppblioglpaa.Wnd
