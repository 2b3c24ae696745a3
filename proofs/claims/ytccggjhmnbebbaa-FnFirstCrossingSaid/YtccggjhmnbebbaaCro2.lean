/- CrossingsOf of both. -/
import Derived.Test.YtccggjhmnbebbaaCro
namespace Go.Proofs.Ytccggjhmnbebbaa.Rwk
open Go.ChangeShapes Go.WideShapes Go.ChangeAt Go.RowKit Go.PlainAid
open Go.Proofs.Ytccggjhmnbebbaa.Num Go.Proofs.Ytccggjhmnbebbaa.Kit Go.Proofs.Ytccggjhmnbebbaa.Pts Go.Proofs.Ytccggjhmnbebbaa.Seg Go.Proofs.Ytccggjhmnbebbaa.Gcd Go.Proofs.Ytccggjhmnbebbaa.Crs Go.Proofs.Ytccggjhmnbebbaa.Trk
set_option linter.unusedVariables false
set_option linter.unusedSimpArgs false

abbrev TW (w : World) (sl : Value) (a b c d : Int) : World := (w.alloc (.cells #[sl] 26)).alloc (.cells #[.int .i64 a, .int .i64 b, .int .i64 c, .int .i64 d] 30)
theorem tw_facts (w : World) (sl : Value) (a b c d : Int) : Ext w (TW w sl a b c d) ∧ (TW w sl a b c d).cell? ⟨w.heap.size, 0, none⟩ = some sl ∧ (TW w sl a b c d).cell? ⟨w.heap.size + 1, 0, none⟩ = some (.int .i64 a) ∧ (TW w sl a b c d).cell? ⟨w.heap.size + 1, 1, none⟩ = some (.int .i64 b) ∧
    (TW w sl a b c d).cell? ⟨w.heap.size + 1, 2, none⟩ = some (.int .i64 c) ∧ (TW w sl a b c d).cell? ⟨w.heap.size + 1, 3, none⟩ = some (.int .i64 d) := by
  have cl : ∀ i v, (#[.int .i64 a, .int .i64 b, .int .i64 c, .int .i64 d] : Array Value)[i]? = some v → (TW w sl a b c d).cell? ⟨w.heap.size + 1, i, none⟩ = some v := fun i v hv => boxed i hv (by simp)
  exact ⟨((Ext.refl w).alloc _).alloc _, ((Ext.refl _).alloc _).cellOf (boxed 0 rfl rfl), cl 0 _ rfl, cl 1 _ rfl, cl 2 _ rfl, cl 3 _ rfl⟩

theorem OwnC.nil (w : World) (base : Nat) : OwnC w base (.slice none 0 0) [] := World.ownsRow_nil w base _ 5
theorem allC_len (fs : List F3) (a b c d : Int) : (allC fs a b c d).length ≤ 39 := by
  unfold allC
  split
  · rename_i h
    unfold vCr at h
    rw [Bool.and_eq_true] at h
    have := (trB_yes h.1).1
    have := crL_len fs a b c d (fs.length - 1)
    omega
  · simp

set_option maxRecDepth 100000 in
set_option maxHeartbeats 2000000 in
theorem crossingsOf_impl (a0 : Option Addr) (cap : Nat) (fs : List F3) (a b c d : Int) (w : World) (hf : Fxs w a0 fs) :
    Calls Try.prog 8 #[Tr (.slice a0 fs.length cap), Sg a b c d] w fun e w' => ∃ v, e = .returned (.tuple #[v, .int .i64 (codC fs a b c d)]) ∧ OwnC w' w.heap.size v (allC fs a b c d) ∧ Ext w w' := by
  obtain ⟨W0, hW0⟩ : ∃ W0, W0 = TW w (.slice a0 fs.length cap) a b c d := ⟨_, rfl⟩
  obtain ⟨hX, c0, c1, c2, c3, c4⟩ := tw_facts w (.slice a0 fs.length cap) a b c d
  rw [← hW0] at hX c0 c1 c2 c3 c4
  unfold TW at hW0
  have HF := Lib.hid (fun w' (h : Ext w w') => hf.ext h)
  have HX := Lib.hid hX
  clear hf hX
  go_enter Try.func8, Try.ntmps8
  go_wp2_with fail
  rw [← hW0]
  clear hW0
  refine (trackValid_any _ _ _ _ (HF.out _ HX.out)).mono ?_
  rintro e w1 ⟨rfl, hx⟩
  cases hv : trB fs
  · have HE := Lib.hid (v_no1 (a := a) (b := b) (c := c) (d := d) hv)
    go_wp2
    rw [HE.out.1, HE.out.2]
    go_ret2
    exact ⟨_, rfl, OwnC.nil _ _, HX.out.trans hx⟩
  · replace c0 := hx.cellOf c0; replace c1 := hx.cellOf c1; replace c2 := hx.cellOf c2; replace c3 := hx.cellOf c3; replace c4 := hx.cellOf c4
    go_wp2_with fail
    refine (lineValid_any _ _ _ _ _).mono ?_
    rintro e w2 ⟨rfl, hy⟩
    replace hx := hx.trans hy
    replace c0 := hy.cellOf c0; replace c1 := hy.cellOf c1; replace c2 := hy.cellOf c2; replace c3 := hy.cellOf c3; replace c4 := hy.cellOf c4
    clear hy
    cases hs : sgB a b c d
    · have HE := Lib.hid (v_no2 (fs := fs) hs)
      go_wp2
      rw [HE.out.1, HE.out.2]
      go_ret2
      exact ⟨_, rfl, OwnC.nil _ _, HX.out.trans hx⟩
    · have HE := Lib.hid (v_yes (fs := fs) hv hs)
      have HL := Lib.hid (list_any a0 cap fs a b c d w2 (HF.out _ (HX.out.trans hx)) hv hs)
      go_wp2_with fail
      refine HL.out.mono ?_
      rintro e w3 ⟨v, rfl, hO, hy⟩
      have HO := Lib.hid (hO.mono (Ext.size (HX.out.trans hx)))
      clear hO
      go_wp2
      rw [HE.out.1, HE.out.2]
      go_ret2
      exact ⟨_, rfl, HO.out, HX.out.trans (hx.trans hy)⟩

set_option maxRecDepth 100000 in
set_option maxHeartbeats 2000000 in
theorem crossingsOf_spec (a0 : Option Addr) (cap : Nat) (fs : List F3) (a b c d : Int) (w : World) (hf : Fxs w a0 fs) :
    Calls Try.prog 9 #[Tr (.slice a0 fs.length cap), Sg a b c d] w fun e w' => ∃ v, e = .returned (.tuple #[v, .int .i64 (codC fs a b c d)]) ∧ OwnC w' w.heap.size v (allC fs a b c d) ∧ Ext w w' := by
  obtain ⟨W0, hW0⟩ : ∃ W0, W0 = TW w (.slice a0 fs.length cap) a b c d := ⟨_, rfl⟩
  obtain ⟨hX, c0, c1, c2, c3, c4⟩ := tw_facts w (.slice a0 fs.length cap) a b c d
  rw [← hW0] at hX c0 c1 c2 c3 c4
  unfold TW at hW0
  have HF := Lib.hid (fun w' (h : Ext w w') => hf.ext h)
  have HX := Lib.hid hX
  have LIT := Lib.hid (fun (w' : World) (h : Ext w w') => show OwnC (w'.alloc (.cells #[] 42)) w.heap.size (.slice (some ⟨w'.heap.size, 0, none⟩) 0 0) [] from World.ownsRow_lit (base := w.heap.size) (e := 42) (size := 5) w' #[] 0 (Ext.size h) (by unfold maxLen; omega) rfl)
  clear hf hX
  go_enter Try.func9, Try.ntmps9
  go_wp2_with fail
  rw [← hW0]
  clear hW0
  refine (isTrack_spec _ _ _ _ (HF.out _ HX.out)).mono ?_
  rintro e w1 ⟨rfl, hx⟩
  cases hv : trB fs
  · have HE := Lib.hid (v_no1 (a := a) (b := b) (c := c) (d := d) hv)
    go_wp2
    rw [HE.out.1, HE.out.2]
    go_ret2
    exact ⟨_, rfl, LIT.out _ (HX.out.trans hx), (HX.out.trans hx).alloc _⟩
  · replace c0 := hx.cellOf c0; replace c1 := hx.cellOf c1; replace c2 := hx.cellOf c2; replace c3 := hx.cellOf c3; replace c4 := hx.cellOf c4
    go_wp2_with fail
    refine (isLine_spec _ _ _ _ _).mono ?_
    rintro e w2 ⟨rfl, hy⟩
    replace hx := hx.trans hy
    replace c0 := hy.cellOf c0; replace c1 := hy.cellOf c1; replace c2 := hy.cellOf c2; replace c3 := hy.cellOf c3; replace c4 := hy.cellOf c4
    clear hy
    cases hs : sgB a b c d
    · have HE := Lib.hid (v_no2 (fs := fs) hs)
      go_wp2
      rw [HE.out.1, HE.out.2]
      go_ret2
      exact ⟨_, rfl, LIT.out _ (HX.out.trans hx), (HX.out.trans hx).alloc _⟩
    · have HE := Lib.hid (v_yes (fs := fs) hv hs)
      have HL := Lib.hid (crossings_spec a0 cap fs a b c d w2 (HF.out _ (HX.out.trans hx)) hv hs)
      go_wp2_with fail
      refine HL.out.mono ?_
      rintro e w3 ⟨v, rfl, hO, hy⟩
      have HO := Lib.hid (hO.mono (Ext.size (HX.out.trans hx)))
      clear hO
      go_wp2
      rw [HE.out.1, HE.out.2]
      go_ret2
      exact ⟨_, rfl, HO.out, HX.out.trans (hx.trans hy)⟩

end Go.Proofs.Ytccggjhmnbebbaa.Rwk
