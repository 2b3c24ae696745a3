/- MarkNamed (impl, spec). -/
import Derived.Test.YtmebaihacddhfaaCrs2
namespace Go.Proofs.Ytmebaihacddhfaa.Crs
open Go.ChangeShapes Go.WideShapes Go.ChangeAt Go.RowKit Go.PlainAid
open Go.Proofs.Ytmebaihacddhfaa.Num Go.Proofs.Ytmebaihacddhfaa.Kit Go.Proofs.Ytmebaihacddhfaa.Pts Go.Proofs.Ytmebaihacddhfaa.Seg Go.Proofs.Ytmebaihacddhfaa.Div
set_option linter.unusedVariables false
set_option linter.unusedSimpArgs false

/-- The answer of MarkNamed, and its code. -/
def mnI (l k : L4) (ms : List M5) (n : ByteArray) : Int := if crB l k ms = true then (if ixI ms n < 0 then 0 else ixI ms n) else 0
def mnC (l k : L4) (ms : List M5) (n : ByteArray) : Int := if crB l k ms = true then (if ixI ms n < 0 then 4 else 0) else 1
theorem ix_bd (ms : List M5) (n : ByteArray) : -1 ≤ ixI ms n ∧ ixI ms n ≤ ms.length := by
  unfold ixI
  cases h : ixO ms n with
  | none => constructor <;> simp <;> omega
  | some k =>
    have := List.mem_of_find?_eq_some h
    simp at this
    constructor <;> simp <;> omega
theorem cr_eight {l k : L4} {ms : List M5} (h : crB l k ms = true) : ms.length ≤ 8 := by
  unfold crB at h
  simp only [Bool.and_eq_true, decide_eq_true_eq] at h
  exact h.2.1

theorem markNamed_impl (l k : L4) (a : Option Addr) (cap : Nat) (ms : List M5) (n : ByteArray) (w : World) (hf : Mks w a ms) :
    Calls Try.prog 43 #[CV l k (.slice a ms.length cap), .string n] w fun e w' => e = .returned (.tuple #[.int .i64 (mnI l k ms n), .int .i64 (mnC l k ms n)]) ∧ Ext w w' := by
  obtain ⟨W0, hW0⟩ : ∃ W0, W0 = w.alloc (.cells (cellsC l k (.slice a ms.length cap)).toArray 30) := ⟨_, rfl⟩
  have HW := Lib.hid (show Ext w W0 from hW0 ▸ (Ext.refl w).alloc _)
  have BB := Lib.hid (show Box W0 w.heap.size (cellsC l k (.slice a ms.length cap)) from hW0 ▸ Box.new rfl)
  have HF := Lib.hid (hf.ext HW.out)
  clear hf
  cases hq : crB l k ms
  · have HQ := Lib.hid (show mnI l k ms n = 0 by unfold mnI; rw [hq]; rfl)
    have HC := Lib.hid (show mnC l k ms n = 1 by unfold mnC; rw [hq]; rfl)
    go_enter Try.func43, Try.ntmps43
    go_wp2_with fail
    rw [← hW0]
    clear hW0
    refine (courseValid_any _ _ _ _ _ _ HF.out).mono ?_
    rw [hq]
    rintro e w1 ⟨rfl, hx⟩
    go_wp2
    go_ret2
    exact ⟨ret_int2 HQ.out HC.out, HW.out.trans hx⟩
  · obtain ⟨b1, b2⟩ := ix_bd ms n
    have b3 := cr_eight hq
    obtain ⟨X, hX⟩ : ∃ X, X = ixI ms n := ⟨_, rfl⟩
    have KM := Lib.hid (fun (w : World) (h : Mks w a ms) => markIndex_any l k a cap ms n w h)
    by_cases h0 : ixI ms n < 0
    · have HQ := Lib.hid (show mnI l k ms n = 0 by unfold mnI; rw [if_pos hq, if_pos h0])
      have HC := Lib.hid (show mnC l k ms n = 4 by unfold mnC; rw [if_pos hq, if_pos h0])
      rw [← hX] at KM b1 b2 h0
      clear hX
      go_enter Try.func43, Try.ntmps43
      go_wp2_with fail
      rw [← hW0]
      clear hW0
      refine (courseValid_any _ _ _ _ _ _ HF.out).mono ?_
      rw [hq]
      rintro e w1 ⟨rfl, hx⟩
      obtain ⟨⟨p0, p1, p2, p3, p4, p5, p6, p7, p8⟩, _⟩ := Box.nine (BB.out.ext hx)
      go_wp2_with fail
      refine (KM.out _ (HF.out.ext hx)).mono ?_
      rintro e w2 ⟨rfl, hy⟩
      go_wp2
      go_ret2
      exact ⟨ret_int2 HQ.out HC.out, HW.out.trans (hx.trans hy)⟩
    · have HQ := Lib.hid (show mnI l k ms n = ixI ms n by unfold mnI; rw [if_pos hq, if_neg h0])
      have HC := Lib.hid (show mnC l k ms n = 0 by unfold mnC; rw [if_pos hq, if_neg h0])
      rw [← hX] at KM b1 b2 h0 HQ
      clear hX
      go_enter Try.func43, Try.ntmps43
      go_wp2_with fail
      rw [← hW0]
      clear hW0
      refine (courseValid_any _ _ _ _ _ _ HF.out).mono ?_
      rw [hq]
      rintro e w1 ⟨rfl, hx⟩
      obtain ⟨⟨p0, p1, p2, p3, p4, p5, p6, p7, p8⟩, _⟩ := Box.nine (BB.out.ext hx)
      go_wp2_with fail
      refine (KM.out _ (HF.out.ext hx)).mono ?_
      rintro e w2 ⟨rfl, hy⟩
      go_wp2
      go_ret2
      exact ⟨ret_int2 HQ.out HC.out, HW.out.trans (hx.trans hy)⟩

theorem markNamed_spec (l k : L4) (a : Option Addr) (cap : Nat) (ms : List M5) (n : ByteArray) (w : World) (hf : Mks w a ms) :
    Calls Try.prog 42 #[CV l k (.slice a ms.length cap), .string n] w fun e w' => e = .returned (.tuple #[.int .i64 (mnI l k ms n), .int .i64 (mnC l k ms n)]) ∧ Ext w w' := by
  obtain ⟨W0, hW0⟩ : ∃ W0, W0 = w.alloc (.cells (cellsC l k (.slice a ms.length cap)).toArray 30) := ⟨_, rfl⟩
  have HW := Lib.hid (show Ext w W0 from hW0 ▸ (Ext.refl w).alloc _)
  have BB := Lib.hid (show Box W0 w.heap.size (cellsC l k (.slice a ms.length cap)) from hW0 ▸ Box.new rfl)
  have HF := Lib.hid (hf.ext HW.out)
  clear hf
  cases hq : crB l k ms
  · have HQ := Lib.hid (show mnI l k ms n = 0 by unfold mnI; rw [hq]; rfl)
    have HC := Lib.hid (show mnC l k ms n = 1 by unfold mnC; rw [hq]; rfl)
    go_enter Try.func42, Try.ntmps42
    go_wp2_with fail
    rw [← hW0]
    clear hW0
    refine (isCourse_spec _ _ _ _ _ _ HF.out).mono ?_
    rw [hq]
    rintro e w1 ⟨rfl, hx⟩
    go_wp2
    go_ret2
    exact ⟨ret_int2 HQ.out HC.out, HW.out.trans hx⟩
  · obtain ⟨b1, b2⟩ := ix_bd ms n
    have b3 := cr_eight hq
    obtain ⟨X, hX⟩ : ∃ X, X = ixI ms n := ⟨_, rfl⟩
    have KM := Lib.hid (fun (w : World) (h : Mks w a ms) => named_spec l k a cap ms n w h)
    by_cases h0 : ixI ms n < 0
    · have HQ := Lib.hid (show mnI l k ms n = 0 by unfold mnI; rw [if_pos hq, if_pos h0])
      have HC := Lib.hid (show mnC l k ms n = 4 by unfold mnC; rw [if_pos hq, if_pos h0])
      rw [← hX] at KM b1 b2 h0
      clear hX
      go_enter Try.func42, Try.ntmps42
      go_wp2_with fail
      rw [← hW0]
      clear hW0
      refine (isCourse_spec _ _ _ _ _ _ HF.out).mono ?_
      rw [hq]
      rintro e w1 ⟨rfl, hx⟩
      obtain ⟨⟨p0, p1, p2, p3, p4, p5, p6, p7, p8⟩, _⟩ := Box.nine (BB.out.ext hx)
      go_wp2_with fail
      refine (KM.out _ (HF.out.ext hx)).mono ?_
      rintro e w2 ⟨rfl, hy⟩
      go_wp2
      go_ret2
      exact ⟨ret_int2 HQ.out HC.out, HW.out.trans (hx.trans hy)⟩
    · have HQ := Lib.hid (show mnI l k ms n = ixI ms n by unfold mnI; rw [if_pos hq, if_neg h0])
      have HC := Lib.hid (show mnC l k ms n = 0 by unfold mnC; rw [if_pos hq, if_neg h0])
      rw [← hX] at KM b1 b2 h0 HQ
      clear hX
      go_enter Try.func42, Try.ntmps42
      go_wp2_with fail
      rw [← hW0]
      clear hW0
      refine (isCourse_spec _ _ _ _ _ _ HF.out).mono ?_
      rw [hq]
      rintro e w1 ⟨rfl, hx⟩
      obtain ⟨⟨p0, p1, p2, p3, p4, p5, p6, p7, p8⟩, _⟩ := Box.nine (BB.out.ext hx)
      go_wp2_with fail
      refine (KM.out _ (HF.out.ext hx)).mono ?_
      rintro e w2 ⟨rfl, hy⟩
      go_wp2
      go_ret2
      exact ⟨ret_int2 HQ.out HC.out, HW.out.trans (hx.trans hy)⟩

end Go.Proofs.Ytmebaihacddhfaa.Crs
