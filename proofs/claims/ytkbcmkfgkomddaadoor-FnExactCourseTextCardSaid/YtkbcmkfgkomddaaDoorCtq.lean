import Derived.Test.YtkbcmkfgkomddaaDoorCts
namespace Go.Proofs.YtkbcmkfgkomddaaDoor.Crs
open Go.ChangeShapes Go.WideShapes Go.ChangeAt Go.RowKit Go.PlainAid
open Go.Proofs.YtkbcmkfgkomddaaDoor.Num Go.Proofs.YtkbcmkfgkomddaaDoor.Kit Go.Proofs.YtkbcmkfgkomddaaDoor.Pts Go.Proofs.YtkbcmkfgkomddaaDoor.Seg Go.Proofs.YtkbcmkfgkomddaaDoor.Txt
set_option linter.unusedVariables false
set_option linter.unusedSimpArgs false
def ctT (l k : L4) (ms : List M5) : List UInt8 := if crB l k ms = true then (if 1000 < (ctS l k ms).length then [] else ctS l k ms) else []
theorem ct_no {l k : L4} {ms : List M5} (h : crB l k ms = false) : ctT l k ms = [] := by unfold ctT; rw [h]; rfl
theorem ct_long {l k : L4} {ms : List M5} (h : crB l k ms = true) (h2 : 1000 < (ctS l k ms).length) : ctT l k ms = [] := by unfold ctT; rw [if_pos h, if_pos h2]
theorem ct_yes {l k : L4} {ms : List M5} (h : crB l k ms = true) (h2 : ¬ 1000 < (ctS l k ms).length) : ctT l k ms = ctS l k ms := by unfold ctT; rw [if_pos h, if_neg h2]
theorem ct_len {l k : L4} {ms : List M5} (hq : crB l k ms = true) : (ctS l k ms).length ≤ 2200 := by
  obtain ⟨hl, hk, hm⟩ := cr_rg hq
  have h1 := cp_len hl (ms := ms) (fun m hmm => by
    obtain ⟨i, hi, e⟩ := List.mem_iff_getElem.1 hmm
    have e2 : mk ms i = m := by rw [← e]; simp [mk, hi]
    rw [← e2]; exact ma_le (hm i hi).1 (hm i hi).2.1) (cr_eight hq) ms.length
  have h2 := tl_len (liW wFinish k) (li_le (by simp) hk)
  rw [cp_all, List.length_append]
  have h3 : (liW wFinish k).length = 5 := rfl
  omega
theorem ow_cells {w : World} {base : Nat} {v : Value} {ws : List (List UInt8)} (h : OwnW w base v ws) (h0 : 0 < ws.length) :
    ∃ g cap, v = .slice (some ⟨g, 0, none⟩) ws.length cap ∧ g < w.heap.size ∧ ws.length ≤ cap ∧ ∀ (j : Nat) (x : ByteArray), (ws.map fun l => (⟨l.toArray⟩ : ByteArray))[j]? = some x → w.cell? ⟨g, 0 + j, none⟩ = some (.string x) := by
  rcases h.2 with ⟨_, e⟩ | ⟨g, cap, cur, rfl, hb, hg, hc, hm, hs, ht⟩
  · omega
  · refine ⟨g, cap, rfl, ?_, hc, fun j x hx => ?_⟩
    · rcases Nat.lt_or_ge g w.heap.size with hlt | hge
      · exact hlt
      · rw [Array.getElem?_eq_none hge] at hg; cases hg
    · rw [List.getElem?_map] at hx
      obtain ⟨l, hl, rfl⟩ := Option.map_eq_some_iff.1 hx
      have hj := (List.getElem?_eq_some_iff.1 hl).1
      rw [Nat.zero_add, World.ownsRow.cellAt h j (by omega)]
      unfold cellsW
      rw [List.getElem?_map, hl]; rfl
theorem map_back : ∀ ws : List (List UInt8), (ws.map fun l => (⟨l.toArray⟩ : ByteArray)).map (·.data.toList) = ws
  | [] => rfl
  | a :: r => by simp only [List.map_cons, map_back r]
theorem join_words (l k : L4) (ms : List M5) (g cap : Nat) (w : World) (hc : ∀ (j : Nat) (x : ByteArray), ((wdS l k ms).map fun l => (⟨l.toArray⟩ : ByteArray))[j]? = some x → w.cell? ⟨g, 0 + j, none⟩ = some (.string x))
    (hg : g < w.heap.size) (hcap : (wdS l k ms).length ≤ cap) (hn : (wdS l k ms).length ≤ 100) (hlen : (ctS l k ms).length ≤ 2200) :
    Calls Tryd.prog 15 #[.slice (some ⟨g, 0, none⟩) (wdS l k ms).length cap, .string ⟨#[32]⟩] w fun e w' => e = .returned (St (ctS l k ms)) ∧ Ext w w' := by
  have jw : Lib.join (((wdS l k ms).map fun l => (⟨l.toArray⟩ : ByteArray)).map (·.data.toList)) (⟨#[32]⟩ : ByteArray).data.toList = ctS l k ms := by rw [map_back]; exact ct_join l k ms
  have h := Tryd.strings_Join g 0 cap ((wdS l k ms).map fun l => ⟨l.toArray⟩) ⟨#[32]⟩ w hc hg (by rw [List.length_map]; omega) (by rw [List.length_map]; exact hcap) (by rw [jw]; omega)
  rw [List.length_map, jw] at h
  exact h
theorem courseText_spec (l k : L4) (a : Option Addr) (cap : Nat) (ms : List M5) (w : World) (hf : Mks w a ms) :
    Calls Tryd.prog 5 #[CV l k (.slice a ms.length cap)] w fun e w' => e = .returned (St (ctT l k ms)) ∧ Ext w w' := by
  obtain ⟨W0, hW0⟩ : ∃ W0, W0 = w.alloc (.cells (cellsC l k (.slice a ms.length cap)).toArray 36) := ⟨_, rfl⟩
  have HW := Lib.hid (show Ext w W0 from hW0 ▸ (Ext.refl w).alloc _)
  have BB := Lib.hid (show Box W0 w.heap.size (cellsC l k (.slice a ms.length cap)) from hW0 ▸ Box.new rfl)
  have HF := Lib.hid (hf.ext HW.out)
  have KQ := Lib.hid (fun w (hf : Mks w a ms) => isCourse_spec l k a cap ms w hf)
  by_cases hq : crB l k ms = true
  · have KT := Lib.hid (fun w (hf : Mks w a ms) => l04Text_any l k a cap ms w hf hq (cr_eight hq))
    have HL := ct_len hq
    by_cases hc : 1000 < (ctS l k ms).length
    · have HT := Lib.hid (ct_long hq hc)
      rw [hq] at KQ
      generalize ctS l k ms = C at *
      have hc2 : (1000 : Int) < (C.length : Int) := by omega
      clear hf hq
      go_enter Tryd.func5, Tryd.ntmps5
      go_wp2_with fail
      rw [← hW0]
      clear hW0
      refine (KQ.out _ HF.out).mono ?_
      rintro e w1 ⟨rfl, hx⟩
      obtain ⟨⟨p0, p1, p2, p3, p4, p5, p6, p7, p8⟩, _⟩ := Box.nine (BB.out.ext hx)
      go_wp2_with fail
      refine (KT.out _ (HF.out.ext hx)).mono ?_
      rintro e w2 ⟨rfl, hy⟩
      go_wp2
      go_ret
      exact ⟨st_eq HT.out, HW.out.trans (hx.trans hy)⟩
    · have HT := Lib.hid (ct_yes hq hc)
      rw [hq] at KQ
      generalize ctS l k ms = C at *
      have hc2 : ¬ (1000 : Int) < (C.length : Int) := by omega
      clear hf hq
      go_enter Tryd.func5, Tryd.ntmps5
      go_wp2_with fail
      rw [← hW0]
      clear hW0
      refine (KQ.out _ HF.out).mono ?_
      rintro e w1 ⟨rfl, hx⟩
      obtain ⟨⟨p0, p1, p2, p3, p4, p5, p6, p7, p8⟩, _⟩ := Box.nine (BB.out.ext hx)
      go_wp2_with fail
      refine (KT.out _ (HF.out.ext hx)).mono ?_
      rintro e w2 ⟨rfl, hy⟩
      go_wp2
      go_ret
      exact ⟨st_eq HT.out, HW.out.trans (hx.trans hy)⟩
  · have hq2 : crB l k ms = false := by simpa using hq
    have HT := Lib.hid (ct_no hq2)
    rw [hq2] at KQ
    clear hf hq hq2
    go_enter Tryd.func5, Tryd.ntmps5
    go_wp2_with fail
    rw [← hW0]
    clear hW0
    refine (KQ.out _ HF.out).mono ?_
    rintro e w1 ⟨rfl, hx⟩
    go_wp2
    go_ret
    exact ⟨st_eq HT.out, HW.out.trans hx⟩
theorem courseText_impl (l k : L4) (a : Option Addr) (cap : Nat) (ms : List M5) (w : World) (hf : Mks w a ms) (ht : Tab w) :
    Calls Tryd.prog 7 #[CV l k (.slice a ms.length cap)] w fun e w' => e = .returned (St (ctT l k ms)) ∧ Ext w w' := by
  obtain ⟨W0, hW0⟩ : ∃ W0, W0 = w.alloc (.cells (cellsC l k (.slice a ms.length cap)).toArray 36) := ⟨_, rfl⟩
  have HW := Lib.hid (show Ext w W0 from hW0 ▸ (Ext.refl w).alloc _)
  have BB := Lib.hid (show Box W0 w.heap.size (cellsC l k (.slice a ms.length cap)) from hW0 ▸ Box.new rfl)
  have HF := Lib.hid (hf.ext HW.out)
  have TB := Lib.hid (ht.ext HW.out)
  have KQ := Lib.hid (fun w (hf : Mks w a ms) => courseValid_any l k a cap ms w hf)
  by_cases hq : crB l k ms = true
  · have hr := cr_rg hq
    have KT := Lib.hid (fun w (hf : Mks w a ms) (ht : Tab w) => words_any l k a cap ms w hf (cr_eight hq) hr.1 hr.2.1 (fun i hi => (hr.2.2 i hi).1) ht)
    have HL := ct_len hq
    have HN := wd_len l k ms (ms.length + 2)
    rw [wd_all] at HN
    have h8 := cr_eight hq
    have h0 : 0 < (wdS l k ms).length := by unfold wdS liW; simp
    have KJ := Lib.hid (fun g cap w hc hg hcap => join_words l k ms g cap w hc hg hcap (by omega) HL)
    by_cases hc : 1000 < (ctS l k ms).length
    · have HT := Lib.hid (ct_long hq hc)
      rw [hq] at KQ
      generalize ctS l k ms = C at *
      generalize wdS l k ms = WS at *
      have hc2 : (1000 : Int) < (C.length : Int) := by omega
      clear hf hq ht hr
      go_enter Tryd.func7, Tryd.ntmps7
      go_wp2_with fail
      rw [← hW0]
      clear hW0
      refine (KQ.out _ HF.out).mono ?_
      rintro e w1 ⟨rfl, hx⟩
      obtain ⟨⟨p0, p1, p2, p3, p4, p5, p6, p7, p8⟩, _⟩ := Box.nine (BB.out.ext hx)
      go_wp2_with fail
      refine (KT.out _ (HF.out.ext hx) (TB.out.ext hx)).mono ?_
      rintro e w2 ⟨v, rfl, ho, hy⟩
      obtain ⟨g, cp, rfl, q1, q2, q3⟩ := ow_cells ho h0
      go_wp2_with fail
      refine (KJ.out _ _ _ q3 q1 q2).mono ?_
      rintro e w3 ⟨rfl, hz⟩
      clear q3 ho
      go_wp2
      go_ret
      exact ⟨st_eq HT.out, HW.out.trans (hx.trans (hy.trans hz))⟩
    · have HT := Lib.hid (ct_yes hq hc)
      rw [hq] at KQ
      generalize ctS l k ms = C at *
      generalize wdS l k ms = WS at *
      have hc2 : ¬ (1000 : Int) < (C.length : Int) := by omega
      clear hf hq ht hr
      go_enter Tryd.func7, Tryd.ntmps7
      go_wp2_with fail
      rw [← hW0]
      clear hW0
      refine (KQ.out _ HF.out).mono ?_
      rintro e w1 ⟨rfl, hx⟩
      obtain ⟨⟨p0, p1, p2, p3, p4, p5, p6, p7, p8⟩, _⟩ := Box.nine (BB.out.ext hx)
      go_wp2_with fail
      refine (KT.out _ (HF.out.ext hx) (TB.out.ext hx)).mono ?_
      rintro e w2 ⟨v, rfl, ho, hy⟩
      obtain ⟨g, cp, rfl, q1, q2, q3⟩ := ow_cells ho h0
      go_wp2_with fail
      refine (KJ.out _ _ _ q3 q1 q2).mono ?_
      rintro e w3 ⟨rfl, hz⟩
      clear q3 ho
      go_wp2
      go_ret
      exact ⟨st_eq HT.out, HW.out.trans (hx.trans (hy.trans hz))⟩
  · have hq2 : crB l k ms = false := by simpa using hq
    have HT := Lib.hid (ct_no hq2)
    rw [hq2] at KQ
    clear hf hq hq2
    go_enter Tryd.func7, Tryd.ntmps7
    go_wp2_with fail
    rw [← hW0]
    clear hW0
    refine (KQ.out _ HF.out).mono ?_
    rintro e w1 ⟨rfl, hx⟩
    go_wp2
    go_ret
    exact ⟨st_eq HT.out, HW.out.trans hx⟩
end Go.Proofs.YtkbcmkfgkomddaaDoor.Crs
