import Derived.Test.YtpdnefodbichkaaGreatZon
import Derived.Test.YtpdnefodbichkaaGreatOrd
import Derived.Deep.DeepCutAuto
namespace Go.Proofs.YtpdnefodbichkaaGreat.Crs
open Go.ChangeShapes Go.WideShapes Go.ChangeAt Go.RowKit Go.PlainAid
open Go.Proofs.YtpdnefodbichkaaGreat.Num Go.Proofs.YtpdnefodbichkaaGreat.Kit Go.Proofs.YtpdnefodbichkaaGreat.Pts Go.Proofs.YtpdnefodbichkaaGreat.Seg Go.Proofs.YtpdnefodbichkaaGreat.Div Go.Proofs.YtpdnefodbichkaaGreat.Root Go.Proofs.YtpdnefodbichkaaGreat.Rt Go.Proofs.YtpdnefodbichkaaGreat.Gcd
open Go.Proofs.YtpdnefodbichkaaGreat.Trk (F3 Fxs Tr trB fx lastB legOf pkX pkY)

set_option linter.unusedVariables false
set_option linter.unusedSimpArgs false
theorem zzS_bd {z : Int} (h1 : 1 ≤ z) (h2 : z ≤ 5000) : IntKind.i64.wrap (z * z) = z * z := by
  have a := Int.mul_le_mul h2 h2 (by omega) (by omega)
  have b := Int.mul_nonneg (show 0 ≤ z by omega) (show 0 ≤ z by omega)
  exact IntWalk.i64_in _ (by omega)
set_option maxRecDepth 100000 in
set_option maxHeartbeats 4000000 in
theorem l07Code_spec (l k : L4) (a : Option Addr) (cap : Nat) (ms : List M5) (n : Int) (at_ : Option Addr) (ct : Nat) (fs : List F3) (w : World) (hf : Mks w a ms) (ht : Fxs w at_ fs) :
    Calls Tryz.prog 87 #[CV l k (.slice a ms.length cap), .int .i64 n, Tr (.slice at_ fs.length ct)] w fun e w' => e = .returned (.int .i64 (mfC l k ms (trB fs) n)) ∧ Ext w w' := by
  obtain ⟨W0, hW0⟩ : ∃ W0, W0 = (w.alloc (.cells (cellsC l k (.slice a ms.length cap)).toArray 30)).alloc (.cells #[.slice at_ fs.length ct] 33) := ⟨_, rfl⟩
  have HW := Lib.hid (show Ext w W0 from hW0 ▸ ((Ext.refl w).alloc _).alloc _)
  have BB := Lib.hid (show Box W0 w.heap.size (cellsC l k (.slice a ms.length cap)) from hW0 ▸ (Box.new rfl).alloc _)
  have CT := Lib.hid (show W0.cell? ⟨w.heap.size + 1, 0, none⟩ = some (.slice at_ fs.length ct) from hW0 ▸ boxed 0 rfl (by simp))
  have HF := Lib.hid (hf.ext HW.out)
  have HT := Lib.hid (ht.ext HW.out)
  have hm := hf.1.1
  unfold maxLen at hm
  clear hf ht
  cases hq : crB l k ms
  · have H := Lib.hid (mf_bad (l := l) (k := k) (ms := ms) (ok := trB fs) (n := n) (.inl hq))
    go_enter Tryz.func87, Tryz.ntmps87
    go_wp2_with fail
    rw [← hW0]
    clear hW0
    refine (isCourse_spec _ _ _ _ _ _ HF.out).mono ?_
    rw [hq]
    rintro e w1 ⟨rfl, hx⟩
    go_wp2
    go_ret
    exact ⟨ret_int H.out, HW.out.trans hx⟩
  cases hv : trB fs
  · have H := Lib.hid (mf_bad (l := l) (k := k) (ms := ms) (ok := false) (n := n) (.inr rfl))
    go_enter Tryz.func87, Tryz.ntmps87
    go_wp2_with fail
    rw [← hW0]
    clear hW0
    refine (isCourse_spec _ _ _ _ _ _ HF.out).mono ?_
    rw [hq]
    rintro e w1 ⟨rfl, hx⟩
    have c0 := hx.cellOf CT.out
    go_wp2_with fail
    refine (Trk.isTrack_spec _ _ _ _ (HT.out.ext hx)).mono ?_
    rw [hv]
    rintro e w2 ⟨rfl, hy⟩
    go_wp2
    go_ret
    exact ⟨ret_int H.out, HW.out.trans (hx.trans hy)⟩
  have h1 : 1 ≤ ms.length := by
    unfold crB at hq; simp only [Bool.and_eq_true, decide_eq_true_eq] at hq; exact hq.1
  have T1 : IntKind.i64.wrap ((ms.length : Int) - 1) = (ms.length : Int) - 1 := IntWalk.i64_in _ (by omega)
  by_cases h0 : 0 ≤ n ∧ n < ms.length
  · have H := Lib.hid (mf_yes (ok := true) hq rfl h0)
    have hin := inB_yes (n := n) (lo := 0) (hi := (ms.length : Int) - 1) h0.1 (by omega)
    clear h0
    go_enter Tryz.func87, Tryz.ntmps87
    go_wp2_with fail
    rw [← hW0]
    clear hW0
    refine (isCourse_spec _ _ _ _ _ _ HF.out).mono ?_
    rw [hq]
    rintro e w1 ⟨rfl, hx⟩
    have c0 := hx.cellOf CT.out
    go_wp2_with fail
    refine (Trk.isTrack_spec _ _ _ _ (HT.out.ext hx)).mono ?_
    rw [hv]
    rintro e w2 ⟨rfl, hy⟩
    obtain ⟨⟨p0, p1, p2, p3, p4, p5, p6, p7, p8⟩, _⟩ := Box.nine (BB.out.ext (hx.trans hy))
    go_wp2_with fail
    refine (in_any _ _ _ _).mono ?_
    rw [hin]
    rintro e w3 ⟨rfl, rfl⟩
    go_wp2
    go_ret
    exact ⟨ret_int H.out, HW.out.trans (hx.trans hy)⟩
  · have H := Lib.hid (mf_out (ok := true) hq rfl h0)
    have hin := inB_no (n := n) (lo := 0) (hi := (ms.length : Int) - 1) (by omega)
    clear h0
    go_enter Tryz.func87, Tryz.ntmps87
    go_wp2_with fail
    rw [← hW0]
    clear hW0
    refine (isCourse_spec _ _ _ _ _ _ HF.out).mono ?_
    rw [hq]
    rintro e w1 ⟨rfl, hx⟩
    have c0 := hx.cellOf CT.out
    go_wp2_with fail
    refine (Trk.isTrack_spec _ _ _ _ (HT.out.ext hx)).mono ?_
    rw [hv]
    rintro e w2 ⟨rfl, hy⟩
    obtain ⟨⟨p0, p1, p2, p3, p4, p5, p6, p7, p8⟩, _⟩ := Box.nine (BB.out.ext (hx.trans hy))
    go_wp2_with fail
    refine (in_any _ _ _ _).mono ?_
    rw [hin]
    rintro e w3 ⟨rfl, rfl⟩
    go_wp2
    go_ret
    exact ⟨ret_int H.out, HW.out.trans (hx.trans hy)⟩
end Go.Proofs.YtpdnefodbichkaaGreat.Crs
