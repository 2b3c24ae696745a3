import Derived.Test.YtknelhceaoblhaaGreatMKit
import Derived.Test.YtknelhceaoblhaaGreatMPts
import Derived.Test.YtknelhceaoblhaaGreatOrd
import Derived.Deep.LoopGhost
import Derived.OwnWalk
import Derived.Laws.OwnMore
import Derived.IntWalk
import Derived.PlainAid
namespace Go.Proofs.YtknelhceaoblhaaGreat.Mnv
open Go.ChangeShapes Go.WideShapes Go.ChangeAt Go.RowKit Go.PlainAid
open Go.Proofs.YtknelhceaoblhaaGreat.Num Go.Proofs.YtknelhceaoblhaaGreat.Kit Go.Proofs.YtknelhceaoblhaaGreat.Pts
set_option linter.unusedVariables false
set_option linter.unusedSimpArgs false
structure M2 where
  x : Int
  y : Int
def px (ps : List M2) (i : Nat) : M2 := ps.getD i ⟨0, 0⟩
theorem px_at {ps : List M2} {i : Nat} (h : i < ps.length) : ps[i]? = some (px ps i) := by
  unfold px
  rw [List.getD_eq_getElem?_getD, List.getElem?_eq_getElem h]; rfl
def cellsM (ps : List M2) : List Value := ps.flatMap fun p => [.int .i64 p.x, .int .i64 p.y]
theorem cellsM_app (ps : List M2) (p : M2) : cellsM ps ++ [.int .i64 p.x, .int .i64 p.y] = cellsM (ps ++ [p]) := by simp [cellsM]
theorem cellsM_get : ∀ (ps : List M2) (i : Nat) (p : M2), ps[i]? = some p → (cellsM ps)[i * 2]? = some (.int .i64 p.x) ∧ (cellsM ps)[i * 2 + 1]? = some (.int .i64 p.y)
  | [], i, p, h => by simp at h
  | q :: ps, 0, p, h => by simp at h; subst h; simp [cellsM]
  | q :: ps, i + 1, p, h => by
    have := cellsM_get ps i p (by simpa using h)
    have e : cellsM (q :: ps) = .int .i64 q.x :: .int .i64 q.y :: cellsM ps := by simp [cellsM]
    rw [e, show (i + 1) * 2 = i * 2 + 2 by omega]
    simpa using this
theorem row_ext {w w' : World} {base size n : Nat} {e : TypeId} {v : Value} {xs : List Value} (h : w.ownsRow base e size v n xs) (k : Ext w w') : w'.ownsRow base e size v n xs := by
  refine World.ownsRow.kept h (row := none) ⟨Below.os k, Below.tape k, Below.output k, Below.size k, fun i hi _ => Below.block k i hi⟩ ?_
  cases v.ownBlock with
  | none => exact .inl rfl
  | some g => exact .inr (by simp)
theorem row_grown {w w' : World} {base size n : Nat} {e : TypeId} {v : Value} {xs : List Value} {w0 : World} (h : w.ownsRow base e size v n xs) (hg : w.grownBy w' v.ownBlock) (hb : w0.heap.size ≤ base) (hc : Ext w0 w) : Ext w0 w' :=
  ⟨hg.os.trans (Below.os hc), hg.tape.trans (Below.tape hc), hg.output.trans (Below.output hc), Nat.le_trans (Ext.size hc) hg.size, fun k hk => (hg.block k (Nat.lt_of_lt_of_le hk (Ext.size hc)) (fun e => by have := (World.ownsRow.lt h k e.symm).1; omega)).trans (Below.block hc k hk)⟩
theorem row_mono {w : World} {base b2 size n : Nat} {e : TypeId} {v : Value} {xs : List Value} (h : w.ownsRow base e size v n xs) (hb : b2 ≤ base) : w.ownsRow b2 e size v n xs := by
  refine ⟨h.1, ?_⟩
  rcases h.2 with h1 | ⟨g, cap, cur, hv, hg, r⟩
  · exact .inl h1
  · exact .inr ⟨g, cap, cur, hv, by omega, r⟩
theorem set_other (W : World) (B p q : Nat) (u : Value) (h : p ≠ q) : (W.setCell ⟨B, p, none⟩ u).cell? ⟨B, q, none⟩ = W.cell? ⟨B, q, none⟩ := World.cell?_setCell_other _ _ _ _ (by simp <;> omega)
def RelE (w : World) (n : Nat) (i : Value) (wr : World) : Prop := ∃ k : Nat, i = .int .i64 k ∧ k ≤ n ∧ Ext w wr
def PAt (w : World) (b o : Nat) (p : M2) : Prop := w.cell? ⟨b, o, none⟩ = some (.int .i64 p.x) ∧ w.cell? ⟨b, o + 1, none⟩ = some (.int .i64 p.y)
theorem PAt.ext {w w' : World} {b o : Nat} {p : M2} (h : PAt w b o p) (k : Ext w w') : PAt w' b o p := ⟨k.cellOf h.1, k.cellOf h.2⟩
def Mxs (w : World) (a : Option Addr) (ps : List M2) : Prop :=
  ps.length ≤ maxLen ∧ (ps = [] ∨ ∃ b off, a = some ⟨b, off, none⟩ ∧ ∀ i, i < ps.length → PAt w b (off + i * 2) (px ps i))
theorem Mxs.ext {w w' : World} {a : Option Addr} {ps : List M2} (h : Mxs w a ps) (k : Ext w w') : Mxs w' a ps := by
  refine ⟨h.1, ?_⟩
  rcases h.2 with h | ⟨b, off, ha, h⟩
  · exact .inl h
  · exact .inr ⟨b, off, ha, fun i hi => (h i hi).ext k⟩
theorem Mxs.row {w : World} {a : Option Addr} {ps : List M2} (h : Mxs w a ps) (h0 : 0 < ps.length) : ∃ b off, a = some ⟨b, off, none⟩ ∧ ∀ i, i < ps.length → PAt w b (off + i * 2) (px ps i) := by
  rcases h.2 with e | e
  · rw [e] at h0; simp at h0
  · exact e
def OwnM (w : World) (base : Nat) (v : Value) (ps : List M2) : Prop := w.ownsRow base 208 2 v ps.length (cellsM ps)
theorem OwnM.ext {w w' : World} {base : Nat} {v : Value} {ps : List M2} (h : OwnM w base v ps) (k : Ext w w') : OwnM w' base v ps := row_ext h k
theorem OwnM.chg {w w' : World} {base B : Nat} {v : Value} {ps : List M2} (h : OwnM w base v ps) (k : Chg B w w') (hB : v.ownBlock ≠ some B) : OwnM w' base v ps :=
  World.ownsRow.kept h (row := some B) ⟨k.os, k.tape, k.output, k.size, fun i hi hne => k.block i hi (fun e => hne (by rw [e]))⟩ (.inr hB)
theorem OwnM.mono {w : World} {base b2 : Nat} {v : Value} {ps : List M2} (h : OwnM w base v ps) (hb : b2 ≤ base) : OwnM w b2 v ps := row_mono h hb
theorem OwnM.nil (w : World) (base : Nat) : OwnM w base (.slice none 0 0) [] := World.ownsRow_nil w base _ 2
theorem OwnM.snoc {w : World} {base : Nat} {v : Value} {ps : List M2} {p : M2} (h : w.ownsRow base 208 2 v (ps.length + 1) (cellsM ps ++ [.int .i64 p.x, .int .i64 p.y])) : OwnM w base v (ps ++ [p]) := by
  unfold OwnM; rw [← cellsM_app, List.length_append]; exact h
theorem OwnM.block {w : World} {base : Nat} {v : Value} {ps : List M2} (h : OwnM w base v ps) {B : Nat} (hB : B < base) : v.ownBlock ≠ some B := fun e => by have := (World.ownsRow.lt h B e).1; omega
theorem OwnM.cases {w : World} {base : Nat} {v : Value} {ps : List M2} (h : OwnM w base v ps) :
    (v = .slice none 0 0 ∧ ps = []) ∨ ∃ g cap, v = .slice (some ⟨g, 0, none⟩) ps.length cap ∧ base ≤ g ∧ (∀ i, i < ps.length → PAt w g (i * 2) (px ps i)) ∧ (∀ j, w.frozen? ⟨g, j, none⟩ = false) ∧ v.ownBlock = some g := by
  have h0 := h
  rcases h.2 with ⟨hv, hn⟩ | ⟨g, cap, cur, hv, hb, hg, hc, hm, hs, ht⟩
  · exact .inl ⟨hv, List.length_eq_zero_iff.1 hn⟩
  · rw [hv] at h0
    refine .inr ⟨g, cap, hv, hb, fun i hi => ?_, fun j => World.ownsRow.frozenAt h0 j, by rw [hv]; rfl⟩
    obtain ⟨c0, c1⟩ := cellsM_get ps i _ (px_at hi)
    exact ⟨by rw [World.ownsRow.cellAt h0 (i * 2) (by omega)]; exact c0, by rw [World.ownsRow.cellAt h0 (i * 2 + 1) (by omega)]; exact c1⟩
def MarkedP (w : World) (g : Nat) (k : Int) (j : Nat) : Prop := ∀ i, i < j → PAt w g (i * 2) ⟨k + 2 * i, k + 2 * i + 1⟩
def RoomP (w : World) (g n : Nat) : Prop := ∀ j, j < n * 2 → (∃ v, w.cell? ⟨g, j, none⟩ = some v) ∧ w.frozen? ⟨g, j, none⟩ = false
def RelMP (w : World) (g n : Nat) (k : Int) (s i : Value) (wr : World) : Prop :=
  ∃ j : Nat, i = .int .i64 j ∧ s = .int .i64 (k + 2 * j) ∧ j ≤ n ∧ RoomP wr g n ∧ MarkedP wr g k j ∧ Chg g w wr
theorem RelMP.step {w wr : World} {g n : Nat} {k : Int} {j : Nat} (hj : j < n) (hr : RoomP wr g n) (hm : MarkedP wr g k j) (hx : Chg g w wr) :
    RelMP w g n k (.int .i64 (k + 2 * j + 1 + 1)) (.int .i64 (j + 1)) ((wr.setCell ⟨g, j * 2, none⟩ (.int .i64 (k + 2 * j))).setCell ⟨g, j * 2 + 1, none⟩ (.int .i64 (k + 2 * j + 1))) := by
  obtain ⟨⟨v0, d0⟩, f0⟩ := hr (j * 2) (by omega)
  obtain ⟨⟨v1, d1⟩, f1⟩ := hr (j * 2 + 1) (by omega)
  refine ⟨j + 1, by go_num, by congr 1; omega, by omega, fun i hi => ?_, fun i hi => ?_, (hx.setCell _ _).setCell _ _⟩
  · obtain ⟨⟨v, hv⟩, hf⟩ := hr i hi
    refine ⟨?_, by simp only [World.frozen?_setCell]; exact hf⟩
    by_cases h1 : j * 2 + 1 = i
    · subst h1; exact ⟨_, World.cell?_setCell_same _ _ _ (by rw [set_other _ _ _ _ _ (by omega)]; exact d1)⟩
    · rw [set_other _ _ _ _ _ h1]
      by_cases h0 : j * 2 = i
      · subst h0; exact ⟨_, World.cell?_setCell_same _ _ _ d0⟩
      · rw [set_other _ _ _ _ _ h0]; exact ⟨_, hv⟩
  · by_cases h : i = j
    · subst h
      refine ⟨?_, ?_⟩
      · rw [set_other _ _ _ _ _ (by omega)]; exact World.cell?_setCell_same _ _ _ d0
      · exact World.cell?_setCell_same _ _ _ (by rw [set_other _ _ _ _ _ (by omega)]; exact d1)
    · obtain ⟨g0, g1⟩ := hm i (by omega)
      refine ⟨?_, ?_⟩
      all_goals
        rw [set_other _ _ _ _ _ (by omega), set_other _ _ _ _ _ (by omega)]; assumption
def ChgV (v : Value) (base : Nat) (w w' : World) : Prop := Ext w w' ∨ ∃ B, base ≤ B ∧ v.ownBlock = some B ∧ Chg B w w'
theorem ChgV.ext {v : Value} {base : Nat} {W w w' : World} (h : ChgV v base w w') (k : Ext W w) (hW : W.heap.size ≤ base) : Ext W w' := by
  rcases h with h | ⟨B, hB, _, h⟩
  · exact k.trans h
  · exact h.ext k (by omega)
def HeldP (w : World) (v : Value) (k : Int) (n : Nat) : Prop := (v = .slice none 0 0 ∧ n = 0) ∨ ∃ g cap, v = .slice (some ⟨g, 0, none⟩) n cap ∧ MarkedP w g k n
theorem HeldP.ext {w w' : World} {v : Value} {k : Int} {n : Nat} (h : HeldP w v k n) (x : Ext w w') : HeldP w' v k n := by
  rcases h with h | ⟨g, cap, e, h⟩
  · exact .inl h
  · exact .inr ⟨g, cap, e, fun i hi => (h i hi).ext x⟩
end Go.Proofs.YtknelhceaoblhaaGreat.Mnv
namespace Go.Proofs.YtknelhceaoblhaaGreat.Rwz
open Go.ChangeShapes Go.WideShapes Go.ChangeAt Go.RowKit Go.PlainAid
open Go.Proofs.YtknelhceaoblhaaGreat.Num Go.Proofs.YtknelhceaoblhaaGreat.Kit Go.Proofs.YtknelhceaoblhaaGreat.Pts
open Go.Proofs.YtknelhceaoblhaaGreat.Mnv (row_ext row_mono row_grown set_other RelE ChgV)
set_option linter.unusedVariables false
set_option linter.unusedSimpArgs false
def nz (zs : List Int) (i : Nat) : Int := zs.getD i 0
theorem nz_at {zs : List Int} {i : Nat} (h : i < zs.length) : zs[i]? = some (nz zs i) := by
  unfold nz
  rw [List.getD_eq_getElem?_getD, List.getElem?_eq_getElem h]; rfl
def cellsZ (zs : List Int) : List Value := zs.map fun z => .int .i64 z
def Zxs (w : World) (a : Option Addr) (zs : List Int) : Prop :=
  zs.length ≤ maxLen ∧ (zs = [] ∨ ∃ b off, a = some ⟨b, off, none⟩ ∧ ∀ i, i < zs.length → w.cell? ⟨b, off + i, none⟩ = some (.int .i64 (nz zs i)))
theorem Zxs.ext {w w' : World} {a : Option Addr} {zs : List Int} (h : Zxs w a zs) (k : Ext w w') : Zxs w' a zs := by
  refine ⟨h.1, ?_⟩
  rcases h.2 with h | ⟨b, off, ha, h⟩
  · exact .inl h
  · exact .inr ⟨b, off, ha, fun i hi => k.cellOf (h i hi)⟩
theorem Zxs.row {w : World} {a : Option Addr} {zs : List Int} (h : Zxs w a zs) (h0 : 0 < zs.length) : ∃ b off, a = some ⟨b, off, none⟩ ∧ ∀ i, i < zs.length → w.cell? ⟨b, off + i, none⟩ = some (.int .i64 (nz zs i)) := by
  rcases h.2 with e | e
  · rw [e] at h0; simp at h0
  · exact e
def OwnZ (w : World) (base : Nat) (v : Value) (zs : List Int) : Prop := w.ownsRow base 2 1 v zs.length (cellsZ zs)
theorem OwnZ.ext {w w' : World} {base : Nat} {v : Value} {zs : List Int} (h : OwnZ w base v zs) (k : Ext w w') : OwnZ w' base v zs := row_ext h k
theorem OwnZ.chg {w w' : World} {base B : Nat} {v : Value} {zs : List Int} (h : OwnZ w base v zs) (k : Chg B w w') (hB : v.ownBlock ≠ some B) : OwnZ w' base v zs :=
  World.ownsRow.kept h (row := some B) ⟨k.os, k.tape, k.output, k.size, fun i hi hne => k.block i hi (fun e => hne (by rw [e]))⟩ (.inr hB)
theorem OwnZ.block {w : World} {base : Nat} {v : Value} {zs : List Int} (h : OwnZ w base v zs) {B : Nat} (hB : B < base) : v.ownBlock ≠ some B := fun e => by have := (World.ownsRow.lt h B e).1; omega
theorem OwnZ.cases {w : World} {base : Nat} {v : Value} {zs : List Int} (h : OwnZ w base v zs) :
    (v = .slice none 0 0 ∧ zs = []) ∨ ∃ g cap, v = .slice (some ⟨g, 0, none⟩) zs.length cap ∧ base ≤ g ∧ (∀ i, i < zs.length → w.cell? ⟨g, i, none⟩ = some (.int .i64 (nz zs i))) ∧ (∀ j, w.frozen? ⟨g, j, none⟩ = false) ∧ v.ownBlock = some g := by
  have h0 := h
  rcases h.2 with ⟨hv, hn⟩ | ⟨g, cap, cur, hv, hb, hg, hc, hm, hs, ht⟩
  · exact .inl ⟨hv, List.length_eq_zero_iff.1 hn⟩
  · rw [hv] at h0
    refine .inr ⟨g, cap, hv, hb, fun i hi => ?_, fun j => World.ownsRow.frozenAt h0 j, by rw [hv]; rfl⟩
    rw [World.ownsRow.cellAt h0 i (by omega)]
    unfold cellsZ
    rw [List.getElem?_map, nz_at hi]; rfl
theorem OwnZ.zxs {w : World} {base : Nat} {v : Value} {zs : List Int} (h : OwnZ w base v zs) (hl : zs.length ≤ maxLen) : ∃ a cap, v = .slice a zs.length cap ∧ Zxs w a zs := by
  rcases h.cases with ⟨hv, rfl⟩ | ⟨g, cap, hv, _, hc, _⟩
  · exact ⟨none, 0, hv, hl, .inl rfl⟩
  · exact ⟨some ⟨g, 0, none⟩, cap, hv, hl, .inr ⟨g, 0, rfl, fun i hi => by rw [Nat.zero_add]; exact hc i hi⟩⟩
set_option maxHeartbeats 800000 in
theorem eqInt64S_same (a b : Option Addr) (cap cap' : Nat) (zs : List Int) (w : World) (ha : Zxs w a zs) (hb : Zxs w b zs) : Calls Tryz.prog 19 #[.slice a zs.length cap, .slice b zs.length cap'] w fun e w' => e = .returned (.bool true) ∧ Ext w w' := by
  have hm := ha.1
  unfold maxLen at hm
  have HA := Lib.hid ha
  have HB := Lib.hid hb
  clear ha hb
  go_enter Tryz.func19, Tryz.ntmps19
  go_wp2
  go_loopw [5] (fun i wr => RelE w zs.length i wr) (fun i _ => zs.length - (intOf i).toNat)
  case atStart => exact ⟨0, rfl, Nat.zero_le _, Ext.refl _⟩
  case round =>
    obtain ⟨k, rfl, hk, hx⟩ := hrel
    have HX := Lib.hid hx
    clear hx
    by_cases hk1 : k < zs.length
    · obtain ⟨b1, o1, rfl, h1⟩ := HA.out.row (by omega)
      obtain ⟨b2, o2, rfl, h2⟩ := HB.out.row (by omega)
      have e0 : ∀ w', Ext wr w' → w'.cell? ⟨b1, o1 + k, none⟩ = some (.int .i64 (nz zs k)) := fun w' h => (HX.out.trans h).cellOf (h1 k hk1)
      have e1 : ∀ w', Ext wr w' → w'.cell? ⟨b2, o2 + k, none⟩ = some (.int .i64 (nz zs k)) := fun w' h => (HX.out.trans h).cellOf (h2 k hk1)
      clear h1 h2
      have i0 : (0 : Int) ≤ (k : Int) := by omega
      have i1 : (k : Int) < (zs.length : Int) := by omega
      go_wp2_with fail
      refine wp_region_held_drew (S := (fun w' => Ext wr w')) (by kernel_rfl) (by (try dsimp only); first | go_keep | exact (Ext.refl _).drew | exact Res.new2.drew | exact Res.new4.drew | exact ResB.drew (by assumption) | exact ResC.drew (by assumption) | assumption | exact Ext.drew (by assumption) | exact Res.drew (by assumption)) (fun hHeld => ?_)
      refine Ord.K 0 17 ?_
      refine Ord.K 1 18 ?_
      refine Ord.K 2 19 ?_
      refine Ord.K 3 20 ?_
      refine Ord.K 4 21 ?_
      refine Ord.K 5 22 ?_
      refine Ord.K 6 23 ?_
      refine Ord.K 7 24 ?_
      refine Ord.K 8 25 ?_
      refine wpAnyH_done (by kernel_rfl) ?_ _
      have HX2 := Lib.hid (HX.out.trans hHeld)
      go_wp2
      go_roundw
      case rel => exact ⟨k + 1, by go_num, by omega, HX2.out⟩
      case measure => simp [intOf]; omega
    · obtain rfl : k = zs.length := by omega
      go_wp2
      go_ret
      exact ⟨rfl, HX.out⟩
def MarkedZ (w : World) (g : Nat) (k : Int) (j : Nat) : Prop := ∀ i : Nat, i < j → w.cell? ⟨g, i, none⟩ = some (.int .i64 (k + i))
def RoomZ (w : World) (g n : Nat) : Prop := ∀ j, j < n → (∃ v, w.cell? ⟨g, j, none⟩ = some v) ∧ w.frozen? ⟨g, j, none⟩ = false
def RelMZ (w : World) (g n : Nat) (k : Int) (s i : Value) (wr : World) : Prop :=
  ∃ j : Nat, i = .int .i64 j ∧ s = .int .i64 (k + j) ∧ j ≤ n ∧ RoomZ wr g n ∧ MarkedZ wr g k j ∧ Chg g w wr
theorem RelMZ.step {w wr : World} {g n : Nat} {k : Int} {j : Nat} (hj : j < n) (hr : RoomZ wr g n) (hm : MarkedZ wr g k j) (hx : Chg g w wr) :
    RelMZ w g n k (.int .i64 (k + j + 1)) (.int .i64 (j + 1)) (wr.setCell ⟨g, j, none⟩ (.int .i64 (k + j))) := by
  obtain ⟨⟨v0, d0⟩, f0⟩ := hr j hj
  refine ⟨j + 1, by go_num, by congr 1; omega, by omega, fun i hi => ?_, fun i hi => ?_, hx.setCell _ _⟩
  · obtain ⟨⟨v, hv⟩, hf⟩ := hr i hi
    refine ⟨?_, by simp only [World.frozen?_setCell]; exact hf⟩
    by_cases h0 : j = i
    · subst h0; exact ⟨_, World.cell?_setCell_same _ _ _ d0⟩
    · rw [set_other _ _ _ _ _ h0]; exact ⟨_, hv⟩
  · by_cases h : i = j
    · subst h; exact World.cell?_setCell_same _ _ _ d0
    · rw [set_other _ _ _ _ _ (by omega)]; exact hm i (by omega)
set_option maxHeartbeats 400000 in
theorem markInt64S_any (g cap n : Nat) (k : Int) (w : World) (hr : RoomZ w g n) (hn : n ≤ 1000) (k0 : 0 ≤ k) (k1 : k ≤ 10000000) :
    Calls Tryz.prog 22 #[.slice (some ⟨g, 0, none⟩) n cap, .int .i64 k] w fun e w' => e = .returned (.int .i64 (k + n)) ∧ MarkedZ w' g k n ∧ Chg g w w' := by
  have HR := Lib.hid hr
  clear hr
  go_enter Tryz.func22, Tryz.ntmps22
  go_wp2
  go_loopw [1, 5] (fun s i wr => RelMZ w g n k s i wr) (fun s i _ => n - (intOf i).toNat)
  case atStart => exact ⟨0, rfl, by simp, Nat.zero_le _, HR.out, fun i hi => absurd hi (by omega), Chg.refl _ _⟩
  case round =>
    obtain ⟨j, rfl, rfl, hj, hr, hm, hx⟩ := hrel
    have HR2 := Lib.hid hr
    have HM := Lib.hid hm
    have HX := Lib.hid hx
    clear hr hm hx
    by_cases hj1 : j < n
    · obtain ⟨⟨v0, d0⟩, f0⟩ := HR2.out j (by omega)
      have i0 : (0 : Int) ≤ (j : Int) := by omega
      have i1 : (j : Int) < (n : Int) := by omega
      have T0 : IntKind.i64.wrap ((j : Int) + 1) = (j : Int) + 1 := IntWalk.i64_in _ (by omega)
      have T1 : IntKind.i64.wrap (k + (j : Int) + 1) = k + (j : Int) + 1 := IntWalk.i64_in _ (by omega)
      have z0 : decide ((j : Int) < (n : Int)) = true := decide_eq_true i1
      go_wp2
      go_roundw
      case rel => exact RelMZ.step hj1 HR2.out HM.out HX.out
      case measure => simp [intOf]; omega
    · obtain rfl : j = n := by omega
      go_wp2
      go_ret
      exact ⟨rfl, HM.out, HX.out⟩
def RelWZ (w : World) (n : Nat) (k : Int) (s i : Value) (wr : World) : Prop := ∃ j : Nat, i = .int .i64 j ∧ s = .int .i64 (k + j) ∧ j ≤ n ∧ w = wr
set_option maxHeartbeats 400000 in
theorem heldInt64S_any (g cap n : Nat) (k : Int) (w : World) (hm : MarkedZ w g k n) (hn : n ≤ 1000) (k0 : 0 ≤ k) (k1 : k ≤ 10000000) :
    Calls Tryz.prog 23 #[.slice (some ⟨g, 0, none⟩) n cap, .int .i64 k] w fun e w' => e = .returned (.int .i64 (k + n)) ∧ w = w' := by
  have HM := Lib.hid hm
  clear hm
  go_enter Tryz.func23, Tryz.ntmps23
  go_wp2
  go_loopw [1, 5] (fun s i wr => RelWZ w n k s i wr) (fun s i _ => n - (intOf i).toNat)
  case atStart => exact ⟨0, rfl, by simp, Nat.zero_le _, rfl⟩
  case round =>
    obtain ⟨j, rfl, rfl, hj, rfl⟩ := hrel
    by_cases hj1 : j < n
    · have d0 := HM.out j hj1
      have i0 : (0 : Int) ≤ (j : Int) := by omega
      have i1 : (j : Int) < (n : Int) := by omega
      have T0 : IntKind.i64.wrap ((j : Int) + 1) = (j : Int) + 1 := IntWalk.i64_in _ (by omega)
      have T1 : IntKind.i64.wrap (k + (j : Int) + 1) = k + (j : Int) + 1 := IntWalk.i64_in _ (by omega)
      have z0 : decide ((j : Int) < (n : Int)) = true := decide_eq_true i1
      go_wp2
      go_roundw
      case rel => exact ⟨j + 1, by go_num, by congr 1; omega, by omega, rfl⟩
      case measure => simp [intOf]; omega
    · obtain rfl : j = n := by omega
      go_wp2
      go_ret
      exact ⟨rfl, rfl⟩
theorem markInt64S_zero (a : Option Addr) (cap : Nat) (k : Int) (w : World) : Calls Tryz.prog 22 #[.slice a 0 cap, .int .i64 k] w fun e w' => e = .returned (.int .i64 k) ∧ w = w' := by
  go_enter Tryz.func22, Tryz.ntmps22
  go_wp2
  go_loopw [1, 5] (fun s i wr => i = .int .i64 0 ∧ s = .int .i64 k ∧ w = wr) (fun s i _ => 0)
  case atStart => exact ⟨rfl, rfl, rfl⟩
  case round =>
    obtain ⟨rfl, rfl, rfl⟩ := hrel
    go_wp2
    go_ret
    exact ⟨rfl, rfl⟩
theorem heldInt64S_zero (a : Option Addr) (cap : Nat) (k : Int) (w : World) : Calls Tryz.prog 23 #[.slice a 0 cap, .int .i64 k] w fun e w' => e = .returned (.int .i64 k) ∧ w = w' := by
  go_enter Tryz.func23, Tryz.ntmps23
  go_wp2
  go_loopw [1, 5] (fun s i wr => i = .int .i64 0 ∧ s = .int .i64 k ∧ w = wr) (fun s i _ => 0)
  case atStart => exact ⟨rfl, rfl, rfl⟩
  case round =>
    obtain ⟨rfl, rfl, rfl⟩ := hrel
    go_wp2
    go_ret
    exact ⟨rfl, rfl⟩
def HeldZ (w : World) (v : Value) (k : Int) (n : Nat) : Prop := (v = .slice none 0 0 ∧ n = 0) ∨ ∃ g cap, v = .slice (some ⟨g, 0, none⟩) n cap ∧ MarkedZ w g k n
theorem HeldZ.ext {w w' : World} {v : Value} {k : Int} {n : Nat} (h : HeldZ w v k n) (x : Ext w w') : HeldZ w' v k n := by
  rcases h with h | ⟨g, cap, e, h⟩
  · exact .inl h
  · exact .inr ⟨g, cap, e, fun i hi => x.cellOf (h i hi)⟩
theorem markOwnZ_any (base : Nat) (v : Value) (zs : List Int) (k : Int) (w : World) (h : OwnZ w base v zs) (hn : zs.length ≤ 1000) (k0 : 0 ≤ k) (k1 : k ≤ 10000000) :
    Calls Tryz.prog 22 #[v, .int .i64 k] w fun e w' => e = .returned (.int .i64 (k + zs.length)) ∧ HeldZ w' v k zs.length ∧ ChgV v base w w' := by
  rcases h.cases with ⟨rfl, rfl⟩ | ⟨g, cap, rfl, hb, hO, hf, ho⟩
  · exact (markInt64S_zero _ _ k w).mono fun e w' ⟨he, hx⟩ => ⟨by simpa using he, .inl ⟨rfl, rfl⟩, .inl (hx ▸ Ext.refl w)⟩
  · have hR : RoomZ w g zs.length := fun j hj => ⟨⟨_, hO j hj⟩, hf j⟩
    exact (markInt64S_any g cap _ k w hR hn k0 k1).mono fun e w' ⟨he, hm, hc⟩ => ⟨he, .inr ⟨g, cap, rfl, hm⟩, .inr ⟨g, hb, ho, hc⟩⟩
theorem heldOwnZ_any (v : Value) (n : Nat) (k : Int) (w : World) (h : HeldZ w v k n) (hn : n ≤ 1000) (k0 : 0 ≤ k) (k1 : k ≤ 10000000) :
    Calls Tryz.prog 23 #[v, .int .i64 k] w fun e w' => e = .returned (.int .i64 (k + n)) ∧ w = w' := by
  rcases h with ⟨rfl, rfl⟩ | ⟨g, cap, rfl, hm⟩
  · exact (heldInt64S_zero _ _ k w).mono fun e w' ⟨he, hx⟩ => ⟨by simpa using he, hx⟩
  · exact heldInt64S_any g cap n k w hm hn k0 k1
theorem OwnZ.nil (w : World) (base : Nat) : OwnZ w base (.slice none 0 0) [] := World.ownsRow_nil w base _ 1
theorem OwnZ.mono {w : World} {b c : Nat} {v : Value} {zs : List Int} (h : OwnZ w b v zs) (hb : c ≤ b) : OwnZ w c v zs := row_mono h hb
theorem OwnZ.grown {w w' : World} {base : Nat} {v : Value} {zs : List Int} {row : Option Nat} (h : OwnZ w base v zs) (hg : w.grownBy w' row) (hne : v.ownBlock = none ∨ v.ownBlock ≠ row) : OwnZ w' base v zs :=
  World.ownsRow.kept h hg hne
theorem nz_get {zs : List Int} {i : Nat} (h : i < zs.length) : nz zs i = zs[i] := by
  unfold nz
  rw [List.getD_eq_getElem?_getD, List.getElem?_eq_getElem h]; rfl
end Go.Proofs.YtknelhceaoblhaaGreat.Rwz
