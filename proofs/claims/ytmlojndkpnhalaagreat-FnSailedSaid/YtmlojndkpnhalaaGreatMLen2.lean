import Derived.Test.YtmlojndkpnhalaaGreatMLen
import Derived.Deep.RegionHeld3
namespace Go.Proofs.YtmlojndkpnhalaaGreat.Crs
open Go.ChangeShapes Go.WideShapes Go.ChangeAt Go.RowKit Go.PlainAid
open Go.Proofs.YtmlojndkpnhalaaGreat.Num Go.Proofs.YtmlojndkpnhalaaGreat.Kit Go.Proofs.YtmlojndkpnhalaaGreat.Pts Go.Proofs.YtmlojndkpnhalaaGreat.Seg Go.Proofs.YtmlojndkpnhalaaGreat.Div Go.Proofs.YtmlojndkpnhalaaGreat.Root Go.Proofs.YtmlojndkpnhalaaGreat.Rt
set_option linter.unusedVariables false
set_option linter.unusedSimpArgs false
def StRow (b g cp : Nat) (l k : L4) (ms : List M5) (w : World) : Prop := w.ownsRow b 25 2 (.slice (some ⟨g, 0, none⟩) (ms.length + 2) cp) (ms.length + 2) (cellsP (stL l k ms))
theorem StRow.ext {b g cp : Nat} {l k : L4} {ms : List M5} {w w' : World} (h : StRow b g cp l k ms w) (x : Ext w w') : StRow b g cp l k ms w' := row_ext h x
theorem StRow.x {b g cp : Nat} {l k : L4} {ms : List M5} {w : World} (h : StRow b g cp l k ms w) {i : Nat} (hi : i < ms.length + 2) : w.cell? ⟨g, i * 2, none⟩ = some (.int .i64 (stP l k ms i).x) := by
  obtain ⟨q0, _⟩ := cellsP_get _ _ _ (stL_at l k ms i hi)
  rw [World.ownsRow.cellAt h (i * 2) (by omega)]; exact q0
theorem StRow.y {b g cp : Nat} {l k : L4} {ms : List M5} {w : World} (h : StRow b g cp l k ms w) {i : Nat} (hi : i < ms.length + 2) : w.cell? ⟨g, i * 2 + 1, none⟩ = some (.int .i64 (stP l k ms i).y) := by
  obtain ⟨_, q1⟩ := cellsP_get _ _ _ (stL_at l k ms i hi)
  rw [World.ownsRow.cellAt h (i * 2 + 1) (by omega)]; exact q1
end Go.Proofs.YtmlojndkpnhalaaGreat.Crs
namespace Go.Proofs.YtmlojndkpnhalaaGreat.Crs
open Go.ChangeShapes Go.WideShapes Go.ChangeAt Go.RowKit Go.PlainAid
open Go.Proofs.YtmlojndkpnhalaaGreat.Num Go.Proofs.YtmlojndkpnhalaaGreat.Kit Go.Proofs.YtmlojndkpnhalaaGreat.Pts Go.Proofs.YtmlojndkpnhalaaGreat.Seg
set_option linter.unusedVariables false
set_option linter.unusedSimpArgs false
def nz (zs : List Int) (i : Nat) : Int := zs.getD i 0
theorem nz_at {zs : List Int} {i : Nat} (h : i < zs.length) : zs[i]? = some (nz zs i) := by
  unfold nz
  rw [List.getD_eq_getElem?_getD, List.getElem?_eq_getElem h]; rfl
def cellsZ (zs : List Int) : List Value := zs.map fun z => .int .i64 z
def Zxs (w : World) (a : Option Addr) (zs : List Int) : Prop :=
  zs.length ≤ maxLen ∧ (zs = [] ∨ ∃ b off, a = some ⟨b, off, none⟩ ∧ ∀ i, i < zs.length → w.cell? ⟨b, off + i, none⟩ = some (.int .i64 (nz zs i)))
theorem Zxs.ext {w w' : World} {a : Option Addr} {zs : List Int} (h : Zxs w a zs) (k : Ext w w') : Zxs w' a zs := by
  refine ⟨h.1, ?_⟩
  rcases h.2 with h | ⟨b, off, ha, h⟩
  · exact .inl h
  · exact .inr ⟨b, off, ha, fun i hi => k.cellOf (h i hi)⟩
theorem Zxs.row {w : World} {a : Option Addr} {zs : List Int} (h : Zxs w a zs) (h0 : 0 < zs.length) : ∃ b off, a = some ⟨b, off, none⟩ ∧ ∀ i, i < zs.length → w.cell? ⟨b, off + i, none⟩ = some (.int .i64 (nz zs i)) := by
  rcases h.2 with e | e
  · rw [e] at h0; simp at h0
  · exact e
def OwnZ (w : World) (base : Nat) (v : Value) (zs : List Int) : Prop := w.ownsRow base 2 1 v zs.length (cellsZ zs)
theorem OwnZ.ext {w w' : World} {base : Nat} {v : Value} {zs : List Int} (h : OwnZ w base v zs) (k : Ext w w') : OwnZ w' base v zs := row_ext h k
theorem OwnZ.chg {w w' : World} {base B : Nat} {v : Value} {zs : List Int} (h : OwnZ w base v zs) (k : Chg B w w') (hB : v.ownBlock ≠ some B) : OwnZ w' base v zs :=
  World.ownsRow.kept h (row := some B) ⟨k.os, k.tape, k.output, k.size, fun i hi hne => k.block i hi (fun e => hne (by rw [e]))⟩ (.inr hB)
theorem OwnZ.block {w : World} {base : Nat} {v : Value} {zs : List Int} (h : OwnZ w base v zs) {B : Nat} (hB : B < base) : v.ownBlock ≠ some B := fun e => by have := (World.ownsRow.lt h B e).1; omega
theorem OwnZ.cases {w : World} {base : Nat} {v : Value} {zs : List Int} (h : OwnZ w base v zs) :
    (v = .slice none 0 0 ∧ zs = []) ∨ ∃ g cap, v = .slice (some ⟨g, 0, none⟩) zs.length cap ∧ base ≤ g ∧ (∀ i, i < zs.length → w.cell? ⟨g, i, none⟩ = some (.int .i64 (nz zs i))) ∧ (∀ j, w.frozen? ⟨g, j, none⟩ = false) ∧ v.ownBlock = some g := by
  have h0 := h
  rcases h.2 with ⟨hv, hn⟩ | ⟨g, cap, cur, hv, hb, hg, hc, hm, hs, ht⟩
  · exact .inl ⟨hv, List.length_eq_zero_iff.1 hn⟩
  · rw [hv] at h0
    refine .inr ⟨g, cap, hv, hb, fun i hi => ?_, fun j => World.ownsRow.frozenAt h0 j, by rw [hv]; rfl⟩
    rw [World.ownsRow.cellAt h0 i (by omega)]
    unfold cellsZ
    rw [List.getElem?_map, nz_at hi]; rfl
theorem OwnZ.zxs {w : World} {base : Nat} {v : Value} {zs : List Int} (h : OwnZ w base v zs) (hl : zs.length ≤ maxLen) : ∃ a cap, v = .slice a zs.length cap ∧ Zxs w a zs := by
  rcases h.cases with ⟨hv, rfl⟩ | ⟨g, cap, hv, _, hc, _⟩
  · exact ⟨none, 0, hv, hl, .inl rfl⟩
  · exact ⟨some ⟨g, 0, none⟩, cap, hv, hl, .inr ⟨g, 0, rfl, fun i hi => by rw [Nat.zero_add]; exact hc i hi⟩⟩
def MarkedZ (w : World) (g : Nat) (k : Int) (j : Nat) : Prop := ∀ i : Nat, i < j → w.cell? ⟨g, i, none⟩ = some (.int .i64 (k + i))
def RoomZ (w : World) (g n : Nat) : Prop := ∀ j, j < n → (∃ v, w.cell? ⟨g, j, none⟩ = some v) ∧ w.frozen? ⟨g, j, none⟩ = false
def RelMZ (w : World) (g n : Nat) (k : Int) (s i : Value) (wr : World) : Prop :=
  ∃ j : Nat, i = .int .i64 j ∧ s = .int .i64 (k + j) ∧ j ≤ n ∧ RoomZ wr g n ∧ MarkedZ wr g k j ∧ Chg g w wr
theorem RelMZ.step {w wr : World} {g n : Nat} {k : Int} {j : Nat} (hj : j < n) (hr : RoomZ wr g n) (hm : MarkedZ wr g k j) (hx : Chg g w wr) :
    RelMZ w g n k (.int .i64 (k + j + 1)) (.int .i64 (j + 1)) (wr.setCell ⟨g, j, none⟩ (.int .i64 (k + j))) := by
  obtain ⟨⟨v0, d0⟩, f0⟩ := hr j hj
  refine ⟨j + 1, by go_num, by congr 1; omega, by omega, fun i hi => ?_, fun i hi => ?_, hx.setCell _ _⟩
  · obtain ⟨⟨v, hv⟩, hf⟩ := hr i hi
    refine ⟨?_, by simp only [World.frozen?_setCell]; exact hf⟩
    by_cases h0 : j = i
    · subst h0; exact ⟨_, World.cell?_setCell_same _ _ _ d0⟩
    · rw [set_other _ _ _ _ _ h0]; exact ⟨_, hv⟩
  · by_cases h : i = j
    · subst h; exact World.cell?_setCell_same _ _ _ d0
    · rw [set_other _ _ _ _ _ (by omega)]; exact hm i (by omega)
def HeldZ (w : World) (v : Value) (k : Int) (n : Nat) : Prop := (v = .slice none 0 0 ∧ n = 0) ∨ ∃ g cap, v = .slice (some ⟨g, 0, none⟩) n cap ∧ MarkedZ w g k n
theorem HeldZ.ext {w w' : World} {v : Value} {k : Int} {n : Nat} (h : HeldZ w v k n) (x : Ext w w') : HeldZ w' v k n := by
  rcases h with h | ⟨g, cap, e, h⟩
  · exact .inl h
  · exact .inr ⟨g, cap, e, fun i hi => x.cellOf (h i hi)⟩
theorem OwnZ.nil (w : World) (base : Nat) : OwnZ w base (.slice none 0 0) [] := World.ownsRow_nil w base _ 1
theorem OwnZ.mono {w : World} {b c : Nat} {v : Value} {zs : List Int} (h : OwnZ w b v zs) (hb : c ≤ b) : OwnZ w c v zs := row_mono h hb
end Go.Proofs.YtmlojndkpnhalaaGreat.Crs
