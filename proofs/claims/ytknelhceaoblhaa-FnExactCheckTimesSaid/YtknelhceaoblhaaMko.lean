/- Marking a track whose row a call made itself, and looking whether it is held. -/
import Derived.Test.YtknelhceaoblhaaMark
namespace Go.Proofs.Ytknelhceaoblhaa.Trk
open Go.ChangeShapes Go.WideShapes Go.ChangeAt Go.RowKit
open Go.Proofs.Ytknelhceaoblhaa.Num Go.Proofs.Ytknelhceaoblhaa.Kit Go.Proofs.Ytknelhceaoblhaa.Pts
set_option linter.unusedVariables false
set_option linter.unusedSimpArgs false

theorem OwnF.cases {w : World} {base : Nat} {v : Value} {fs : List F3} (h : OwnF w base v fs) :
    (v = .slice none 0 0 ∧ fs = []) ∨ ∃ g cap, v = .slice (some ⟨g, 0, none⟩) fs.length cap ∧ base ≤ g ∧ Own w g fs ∧ v.ownBlock = some g := by
  have h0 := h
  rcases h.2 with ⟨hv, hn⟩ | ⟨g, cap, cur, hv, hb, hg, hc, hm, hs, ht⟩
  · exact .inl ⟨hv, List.length_eq_zero_iff.1 hn⟩
  · rw [hv] at h0
    refine .inr ⟨g, cap, hv, hb, fun i hi => ?_, by rw [hv]; rfl⟩
    obtain ⟨c0, c1, c2⟩ := cellsF_get fs i hi
    exact ⟨⟨by rw [h0.cellAt (i * 3) (by omega)]; exact c0, by rw [h0.cellAt (i * 3 + 1) (by omega)]; exact c1, by rw [h0.cellAt (i * 3 + 2) (by omega)]; exact c2⟩, h0.frozenAt _, h0.frozenAt _, h0.frozenAt _⟩

/-- Nothing that was there is written but the row of v, which lies from 'base' on. -/
def ChgV (v : Value) (base : Nat) (w w' : World) : Prop := Ext w w' ∨ ∃ B, base ≤ B ∧ v.ownBlock = some B ∧ Chg B w w'
theorem ChgV.ext {v : Value} {base : Nat} {W w w' : World} (h : ChgV v base w w') (k : Ext W w) (hW : W.heap.size ≤ base) : Ext W w' := by
  rcases h with h | ⟨B, hB, _, h⟩
  · exact k.trans h
  · exact h.ext k (by omega)
theorem ChgV.cellOf {v : Value} {base : Nat} {w w' : World} (h : ChgV v base w w') {p : Addr} {x : Value} (hp : v.ownBlock ≠ some p.block) (hc : w.cell? p = some x) : w'.cell? p = some x := by
  rcases h with h | ⟨B, hB, e, h⟩
  · exact h.cellOf hc
  · exact h.cellOf (fun q => hp (by rw [q]; exact e)) hc

/-- The row of v holds the marks from k on. -/
def Held (w : World) (v : Value) (k : Int) (n : Nat) : Prop := (v = .slice none 0 0 ∧ n = 0) ∨ ∃ g cap, v = .slice (some ⟨g, 0, none⟩) n cap ∧ Marked w g k n
theorem Held.ext {w w' : World} {v : Value} {k : Int} {n : Nat} (h : Held w v k n) (x : Ext w w') : Held w' v k n := by
  rcases h with h | ⟨g, cap, e, h⟩
  · exact .inl h
  · exact .inr ⟨g, cap, e, fun i hi => (h i hi).ext x⟩

theorem markOwn_any (base : Nat) (v : Value) (fs : List F3) (k : Int) (w : World) (h : OwnF w base v fs) (hn : fs.length ≤ 1048576) (k0 : 0 ≤ k) (k1 : k ≤ 10000000) :
    Calls Try.prog 15 #[Tr v, .int .i64 k] w fun e w' => e = .returned (.int .i64 (k + 3 * fs.length)) ∧ Held w' v k fs.length ∧ ChgV v base w w' := by
  rcases h.cases with ⟨rfl, rfl⟩ | ⟨g, cap, rfl, hb, hO, ho⟩
  · exact (markTrack_nil k w).mono fun e w' ⟨he, hx⟩ => ⟨by simpa using he, .inl ⟨rfl, rfl⟩, .inl hx⟩
  · exact (markTrack_any g cap _ k w hO.room hn k0 k1).mono fun e w' ⟨he, _, hm, hc⟩ => ⟨he, .inr ⟨g, cap, rfl, hm⟩, .inr ⟨g, hb, ho, hc⟩⟩

/-- A track without fixes. -/
theorem markTrack_zero (a : Option Addr) (cap : Nat) (k : Int) (w : World) : Calls Try.prog 15 #[Tr (.slice a 0 cap), .int .i64 k] w fun e w' => e = .returned (.int .i64 k) ∧ Ext w w' := by
  have h : Calls Try.prog 33 #[.slice a 0 cap, .int .i64 k] (w.alloc (.cells #[.slice a 0 cap] 37)) fun e w' => e = .returned (.int .i64 k) ∧ (w.alloc (.cells #[.slice a 0 cap] 37)) = w' := by
    go_enter Try.func33, Try.ntmps33
    go_wp2
    go_loopw [1, 5] (fun s i wr => i = .int .i64 0 ∧ s = .int .i64 k ∧ wr = (w.alloc (.cells #[.slice a 0 cap] 37))) (fun s i _ => 0)
    case atStart => exact ⟨rfl, rfl, rfl⟩
    case round =>
      obtain ⟨rfl, rfl, rfl⟩ := hrel
      go_wp2
      go_ret
      exact ⟨rfl, rfl⟩
  have H := Lib.hid h
  clear h
  go_enter Try.func15, Try.ntmps15
  go_wp2_with fail
  refine H.out.mono ?_
  rintro e w1 ⟨rfl, rfl⟩
  go_wp2
  go_ret
  exact ⟨rfl, (by repeat (first | exact Ext.refl _ | assumption | apply Ext.alloc | apply Ext.drew | (refine Ext.trans ?_ (by assumption)) | (refine Ext.setNew ?_ (by simp <;> omega) _)))⟩

/-- A track that toTrack made: only its own row is written; 'b' stands for a block that nobody looks at. -/
theorem markNew_any (B cap b : Nat) (fs : List F3) (k : Int) (w : World) (h : Own w B fs) (hn : fs.length ≤ 1048576) (k0 : 0 ≤ k) (k1 : k ≤ 10000000) :
    Calls Try.prog 15 #[Tr (.slice (some ⟨B, 0, none⟩) fs.length cap), .int .i64 k] w fun e w' => e = .returned (.int .i64 (k + 3 * fs.length)) ∧ ∃ C, ((0 < fs.length ∧ C = B) ∨ C = b) ∧ Chg C w w' := by
  by_cases h0 : fs.length = 0
  · rw [h0]
    exact (markTrack_zero _ cap k w).mono fun e w' ⟨he, hx⟩ => ⟨by simpa using he, b, .inr rfl, Chg.of_ext hx⟩
  · exact (markTrack_any B cap _ k w h.room hn k0 (by omega)).mono fun e w' ⟨he, _, _, hc⟩ => ⟨he, B, .inl ⟨by omega, rfl⟩, hc⟩

end Go.Proofs.Ytknelhceaoblhaa.Trk
