/- StationsOf (impl, spec): both answers. -/
import Derived.Test.YtiofplgbbbdkfaaPro
import Derived.Test.YtiofplgbbbdkfaaMnm
namespace Go.Proofs.Ytiofplgbbbdkfaa.Crs
open Go.ChangeShapes Go.WideShapes Go.ChangeAt Go.RowKit Go.PlainAid
open Go.Proofs.Ytiofplgbbbdkfaa.Num Go.Proofs.Ytiofplgbbbdkfaa.Kit Go.Proofs.Ytiofplgbbbdkfaa.Pts Go.Proofs.Ytiofplgbbbdkfaa.Seg Go.Proofs.Ytiofplgbbbdkfaa.Div
set_option linter.unusedVariables false
set_option linter.unusedSimpArgs false

def soC (l k : L4) (ms : List M5) : Int := if crB l k ms = true then 0 else 1
def soP (l k : L4) (ms : List M5) : List P2 := if crB l k ms = true then stL l k ms else []
theorem soP_len (l k : L4) (ms : List M5) : (soP l k ms).length ≤ 10 := by
  unfold soP
  split
  · rename_i h
    rw [stL_len]
    have := cr_eight h
    omega
  · simp
theorem cr_lines {l k : L4} {ms : List M5} (h : crB l k ms = true) : liB l = true ∧ liB k = true := by
  unfold crB at h
  simp only [Bool.and_eq_true] at h
  exact pv_lines h.2.2.1

theorem stationsOf_impl (l k : L4) (a : Option Addr) (cap : Nat) (ms : List M5) (w : World) (hf : Mks w a ms) :
    Calls Try.prog 9 #[CV l k (.slice a ms.length cap)] w fun e w' => ∃ v, e = .returned (.tuple #[v, .int .i64 (soC l k ms)]) ∧ OwnP w' w.heap.size v (soP l k ms) ∧ Ext w w' := by
  obtain ⟨W0, hW0⟩ : ∃ W0, W0 = w.alloc (.cells (cellsC l k (.slice a ms.length cap)).toArray 30) := ⟨_, rfl⟩
  have HW := Lib.hid (show Ext w W0 from hW0 ▸ (Ext.refl w).alloc _)
  have BB := Lib.hid (show Box W0 w.heap.size (cellsC l k (.slice a ms.length cap)) from hW0 ▸ Box.new rfl)
  have HF := Lib.hid (hf.ext HW.out)
  clear hf
  cases hq : crB l k ms
  · rw [show soC l k ms = 1 by unfold soC; rw [hq]; rfl, show soP l k ms = [] by unfold soP; rw [hq]; rfl]
    go_enter Try.func9, Try.ntmps9
    go_wp2_with fail
    rw [← hW0]
    clear hW0
    refine (courseValid_any _ _ _ _ _ _ HF.out).mono ?_
    rw [hq]
    rintro e w1 ⟨rfl, hx⟩
    go_wp2
    go_ret2
    exact ⟨_, rfl, World.ownsRow_nil _ _ _ _, HW.out.trans hx⟩
  · obtain ⟨hv, hv2⟩ := cr_lines hq
    have h8 := cr_eight hq
    rw [show soC l k ms = 0 by unfold soC; rw [if_pos hq], show soP l k ms = stL l k ms by unfold soP; rw [if_pos hq]]
    go_enter Try.func9, Try.ntmps9
    go_wp2_with fail
    rw [← hW0]
    clear hW0
    refine (courseValid_any _ _ _ _ _ _ HF.out).mono ?_
    rw [hq]
    rintro e w1 ⟨rfl, hx⟩
    obtain ⟨⟨p0, p1, p2, p3, p4, p5, p6, p7, p8⟩, _⟩ := Box.nine (BB.out.ext hx)
    go_wp2_with fail
    refine (stations_any _ _ _ _ _ _ (HF.out.ext hx) h8 hv hv2).mono ?_
    rintro e w2 ⟨v, rfl, hO, hy⟩
    have HO := Lib.hid hO
    clear hO
    go_wp2
    go_ret2
    exact ⟨_, rfl, by unfold OwnP; rw [stL_len]; exact row_mono HO.out (Ext.size (HW.out.trans hx)), HW.out.trans (hx.trans hy)⟩

end Go.Proofs.Ytiofplgbbbdkfaa.Crs
