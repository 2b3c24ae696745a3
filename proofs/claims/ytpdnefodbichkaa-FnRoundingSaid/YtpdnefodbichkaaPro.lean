import Derived.Test.YtpdnefodbichkaaMSta2
import Derived.Test.YtpdnefodbichkaaOrd
namespace Go.Proofs.Ytpdnefodbichkaa.Crs
open Go.ChangeShapes Go.WideShapes Go.ChangeAt Go.RowKit Go.PlainAid
open Go.Proofs.Ytpdnefodbichkaa.Num Go.Proofs.Ytpdnefodbichkaa.Kit Go.Proofs.Ytpdnefodbichkaa.Pts Go.Proofs.Ytpdnefodbichkaa.Seg
set_option linter.unusedVariables false
set_option linter.unusedSimpArgs false
def px (ps : List P2) (i : Nat) : P2 := ps.getD i ⟨0, 0⟩
theorem px_at {ps : List P2} {i : Nat} (h : i < ps.length) : ps[i]? = some (px ps i) := by
  unfold px
  rw [List.getD_eq_getElem?_getD, List.getElem?_eq_getElem h]; rfl
def PAt (w : World) (b o : Nat) (p : P2) : Prop := w.cell? ⟨b, o, none⟩ = some (.int .i64 p.x) ∧ w.cell? ⟨b, o + 1, none⟩ = some (.int .i64 p.y)
theorem PAt.ext {w w' : World} {b o : Nat} {p : P2} (h : PAt w b o p) (k : Ext w w') : PAt w' b o p := ⟨k.cellOf h.1, k.cellOf h.2⟩
def Pxs (w : World) (a : Option Addr) (ps : List P2) : Prop :=
  ps.length ≤ maxLen ∧ (ps = [] ∨ ∃ b off, a = some ⟨b, off, none⟩ ∧ ∀ i, i < ps.length → PAt w b (off + i * 2) (px ps i))
theorem Pxs.ext {w w' : World} {a : Option Addr} {ps : List P2} (h : Pxs w a ps) (k : Ext w w') : Pxs w' a ps := by
  refine ⟨h.1, ?_⟩
  rcases h.2 with h | ⟨b, off, ha, h⟩
  · exact .inl h
  · exact .inr ⟨b, off, ha, fun i hi => (h i hi).ext k⟩
theorem Pxs.row {w : World} {a : Option Addr} {ps : List P2} (h : Pxs w a ps) (h0 : 0 < ps.length) : ∃ b off, a = some ⟨b, off, none⟩ ∧ ∀ i, i < ps.length → PAt w b (off + i * 2) (px ps i) := by
  rcases h.2 with e | e
  · rw [e] at h0; simp at h0
  · exact e
def OwnP (w : World) (base : Nat) (v : Value) (ps : List P2) : Prop := w.ownsRow base 25 2 v ps.length (cellsP ps)
theorem OwnP.ext {w w' : World} {base : Nat} {v : Value} {ps : List P2} (h : OwnP w base v ps) (k : Ext w w') : OwnP w' base v ps := row_ext h k
theorem OwnP.chg {w w' : World} {base B : Nat} {v : Value} {ps : List P2} (h : OwnP w base v ps) (k : Chg B w w') (hB : v.ownBlock ≠ some B) : OwnP w' base v ps :=
  World.ownsRow.kept h (row := some B) ⟨k.os, k.tape, k.output, k.size, fun i hi hne => k.block i hi (fun e => hne (by rw [e]))⟩ (.inr hB)
theorem OwnP.block {w : World} {base : Nat} {v : Value} {ps : List P2} (h : OwnP w base v ps) {B : Nat} (hB : B < base) : v.ownBlock ≠ some B := fun e => by have := (World.ownsRow.lt h B e).1; omega
theorem OwnP.cases {w : World} {base : Nat} {v : Value} {ps : List P2} (h : OwnP w base v ps) :
    (v = .slice none 0 0 ∧ ps = []) ∨ ∃ g cap, v = .slice (some ⟨g, 0, none⟩) ps.length cap ∧ base ≤ g ∧ (∀ i, i < ps.length → PAt w g (i * 2) (px ps i)) ∧ (∀ j, w.frozen? ⟨g, j, none⟩ = false) ∧ v.ownBlock = some g := by
  have h0 := h
  rcases h.2 with ⟨hv, hn⟩ | ⟨g, cap, cur, hv, hb, hg, hc, hm, hs, ht⟩
  · exact .inl ⟨hv, List.length_eq_zero_iff.1 hn⟩
  · rw [hv] at h0
    refine .inr ⟨g, cap, hv, hb, fun i hi => ?_, fun j => World.ownsRow.frozenAt h0 j, by rw [hv]; rfl⟩
    obtain ⟨c0, c1⟩ := cellsP_get ps i _ (px_at hi)
    exact ⟨by rw [World.ownsRow.cellAt h0 (i * 2) (by omega)]; exact c0, by rw [World.ownsRow.cellAt h0 (i * 2 + 1) (by omega)]; exact c1⟩
def MarkedP (w : World) (g : Nat) (k : Int) (j : Nat) : Prop := ∀ i, i < j → PAt w g (i * 2) ⟨k + 2 * i, k + 2 * i + 1⟩
def RoomP (w : World) (g n : Nat) : Prop := ∀ j, j < n * 2 → (∃ v, w.cell? ⟨g, j, none⟩ = some v) ∧ w.frozen? ⟨g, j, none⟩ = false
def RelMP (w : World) (g n : Nat) (k : Int) (s i : Value) (wr : World) : Prop :=
  ∃ j : Nat, i = .int .i64 j ∧ s = .int .i64 (k + 2 * j) ∧ j ≤ n ∧ RoomP wr g n ∧ MarkedP wr g k j ∧ Chg g w wr
theorem RelMP.step {w wr : World} {g n : Nat} {k : Int} {j : Nat} (hj : j < n) (hr : RoomP wr g n) (hm : MarkedP wr g k j) (hx : Chg g w wr) :
    RelMP w g n k (.int .i64 (k + 2 * j + 1 + 1)) (.int .i64 (j + 1)) ((wr.setCell ⟨g, j * 2, none⟩ (.int .i64 (k + 2 * j))).setCell ⟨g, j * 2 + 1, none⟩ (.int .i64 (k + 2 * j + 1))) := by
  obtain ⟨⟨v0, d0⟩, f0⟩ := hr (j * 2) (by omega)
  obtain ⟨⟨v1, d1⟩, f1⟩ := hr (j * 2 + 1) (by omega)
  refine ⟨j + 1, by go_num, by congr 1; omega, by omega, fun i hi => ?_, fun i hi => ?_, (hx.setCell _ _).setCell _ _⟩
  · obtain ⟨⟨v, hv⟩, hf⟩ := hr i hi
    refine ⟨?_, by simp only [World.frozen?_setCell]; exact hf⟩
    by_cases h1 : j * 2 + 1 = i
    · subst h1; exact ⟨_, World.cell?_setCell_same _ _ _ (by rw [set_other _ _ _ _ _ (by omega)]; exact d1)⟩
    · rw [set_other _ _ _ _ _ h1]
      by_cases h0 : j * 2 = i
      · subst h0; exact ⟨_, World.cell?_setCell_same _ _ _ d0⟩
      · rw [set_other _ _ _ _ _ h0]; exact ⟨_, hv⟩
  · by_cases h : i = j
    · subst h
      refine ⟨?_, ?_⟩
      · rw [set_other _ _ _ _ _ (by omega)]; exact World.cell?_setCell_same _ _ _ d0
      · exact World.cell?_setCell_same _ _ _ (by rw [set_other _ _ _ _ _ (by omega)]; exact d1)
    · obtain ⟨g0, g1⟩ := hm i (by omega)
      refine ⟨?_, ?_⟩
      all_goals
        rw [set_other _ _ _ _ _ (by omega), set_other _ _ _ _ _ (by omega)]; assumption
def ChgV (v : Value) (base : Nat) (w w' : World) : Prop := Ext w w' ∨ ∃ B, base ≤ B ∧ v.ownBlock = some B ∧ Chg B w w'
theorem ChgV.ext {v : Value} {base : Nat} {W w w' : World} (h : ChgV v base w w') (k : Ext W w) (hW : W.heap.size ≤ base) : Ext W w' := by
  rcases h with h | ⟨B, hB, _, h⟩
  · exact k.trans h
  · exact h.ext k (by omega)
def HeldP (w : World) (v : Value) (k : Int) (n : Nat) : Prop := (v = .slice none 0 0 ∧ n = 0) ∨ ∃ g cap, v = .slice (some ⟨g, 0, none⟩) n cap ∧ MarkedP w g k n
theorem HeldP.ext {w w' : World} {v : Value} {k : Int} {n : Nat} (h : HeldP w v k n) (x : Ext w w') : HeldP w' v k n := by
  rcases h with h | ⟨g, cap, e, h⟩
  · exact .inl h
  · exact .inr ⟨g, cap, e, fun i hi => (h i hi).ext x⟩
end Go.Proofs.Ytpdnefodbichkaa.Crs
