import Derived.Test.YtmlojndkpnhalaaGreatMKit
import Derived.Test.YtmlojndkpnhalaaGreatMPts
import Derived.Test.YtmlojndkpnhalaaGreatOrd
import Derived.Deep.LoopGhost
import Derived.OwnWalk
import Derived.Laws.OwnMore
import Derived.IntWalk
import Derived.PlainAid
namespace Go.Proofs.YtmlojndkpnhalaaGreat.Mnv
open Go.ChangeShapes Go.WideShapes Go.ChangeAt Go.RowKit Go.PlainAid
open Go.Proofs.YtmlojndkpnhalaaGreat.Num Go.Proofs.YtmlojndkpnhalaaGreat.Kit Go.Proofs.YtmlojndkpnhalaaGreat.Pts
set_option linter.unusedVariables false
set_option linter.unusedSimpArgs false
structure M2 where
  x : Int
  y : Int
def px (ps : List M2) (i : Nat) : M2 := ps.getD i ⟨0, 0⟩
theorem px_at {ps : List M2} {i : Nat} (h : i < ps.length) : ps[i]? = some (px ps i) := by
  unfold px
  rw [List.getD_eq_getElem?_getD, List.getElem?_eq_getElem h]; rfl
def cellsM (ps : List M2) : List Value := ps.flatMap fun p => [.int .i64 p.x, .int .i64 p.y]
theorem cellsM_app (ps : List M2) (p : M2) : cellsM ps ++ [.int .i64 p.x, .int .i64 p.y] = cellsM (ps ++ [p]) := by simp [cellsM]
theorem cellsM_get : ∀ (ps : List M2) (i : Nat) (p : M2), ps[i]? = some p → (cellsM ps)[i * 2]? = some (.int .i64 p.x) ∧ (cellsM ps)[i * 2 + 1]? = some (.int .i64 p.y)
  | [], i, p, h => by simp at h
  | q :: ps, 0, p, h => by simp at h; subst h; simp [cellsM]
  | q :: ps, i + 1, p, h => by
    have := cellsM_get ps i p (by simpa using h)
    have e : cellsM (q :: ps) = .int .i64 q.x :: .int .i64 q.y :: cellsM ps := by simp [cellsM]
    rw [e, show (i + 1) * 2 = i * 2 + 2 by omega]
    simpa using this
theorem row_ext {w w' : World} {base size n : Nat} {e : TypeId} {v : Value} {xs : List Value} (h : w.ownsRow base e size v n xs) (k : Ext w w') : w'.ownsRow base e size v n xs := by
  refine World.ownsRow.kept h (row := none) ⟨Below.os k, Below.tape k, Below.output k, Below.size k, fun i hi _ => Below.block k i hi⟩ ?_
  cases v.ownBlock with
  | none => exact .inl rfl
  | some g => exact .inr (by simp)
theorem row_grown {w w' : World} {base size n : Nat} {e : TypeId} {v : Value} {xs : List Value} {w0 : World} (h : w.ownsRow base e size v n xs) (hg : w.grownBy w' v.ownBlock) (hb : w0.heap.size ≤ base) (hc : Ext w0 w) : Ext w0 w' :=
  ⟨hg.os.trans (Below.os hc), hg.tape.trans (Below.tape hc), hg.output.trans (Below.output hc), Nat.le_trans (Ext.size hc) hg.size, fun k hk => (hg.block k (Nat.lt_of_lt_of_le hk (Ext.size hc)) (fun e => by have := (World.ownsRow.lt h k e.symm).1; omega)).trans (Below.block hc k hk)⟩
theorem row_grownC {w w' : World} {base size n B : Nat} {e : TypeId} {v : Value} {xs : List Value} {w0 : World} (h : w.ownsRow base e size v n xs) (hg : w.grownBy w' v.ownBlock) (hb : w0.heap.size ≤ base) (hc : Chg B w0 w) : Chg B w0 w' :=
  ⟨hg.os.trans hc.os, hg.tape.trans hc.tape, hg.output.trans hc.output, Nat.le_trans hc.size hg.size, fun k hk hkB => (hg.block k (Nat.lt_of_lt_of_le hk hc.size) (fun e => by have := (World.ownsRow.lt h k e.symm).1; omega)).trans (hc.block k hk hkB)⟩
theorem row_mono {w : World} {base b2 size n : Nat} {e : TypeId} {v : Value} {xs : List Value} (h : w.ownsRow base e size v n xs) (hb : b2 ≤ base) : w.ownsRow b2 e size v n xs := by
  refine ⟨h.1, ?_⟩
  rcases h.2 with h1 | ⟨g, cap, cur, hv, hg, r⟩
  · exact .inl h1
  · exact .inr ⟨g, cap, cur, hv, by omega, r⟩
theorem set_other (W : World) (B p q : Nat) (u : Value) (h : p ≠ q) : (W.setCell ⟨B, p, none⟩ u).cell? ⟨B, q, none⟩ = W.cell? ⟨B, q, none⟩ := World.cell?_setCell_other _ _ _ _ (by simp <;> omega)
theorem mnInfo : (Tryz.prog.info? 235).map (fun i => (i.zero, i.size, i.bytes)) = some (some (.agg #[.int .i64 0, .int .i64 0]), 2, 16) := by kernel_rfl
theorem two_ints (x y : Int) : ∀ u ∈ ([.int .i64 x, .int .i64 y] : List Value), u.oneCell' = true := by
  intro u hu
  simp at hu
  rcases hu with rfl | rfl <;> rfl
theorem two_cells {w : World} {u v : Value} {t : TypeId} {n : Nat} (hn : w.heap.size = n) : ∀ (j : Nat) (x : Value), ([u, v] : List Value)[j]? = some x → (w.alloc (.cells #[u, v] t)).cell? ((⟨n, 0, none⟩ : Addr).add j) = some x := by
  intro j x hx
  rw [show (⟨n, 0, none⟩ : Addr).add j = ⟨n, j, none⟩ by simp [Addr.add]; omega]
  exact boxed j (by simpa using hx) hn
def RelE (w : World) (n : Nat) (i : Value) (wr : World) : Prop := ∃ k : Nat, i = .int .i64 k ∧ k ≤ n ∧ Ext w wr
def PAt (w : World) (b o : Nat) (p : M2) : Prop := w.cell? ⟨b, o, none⟩ = some (.int .i64 p.x) ∧ w.cell? ⟨b, o + 1, none⟩ = some (.int .i64 p.y)
theorem PAt.ext {w w' : World} {b o : Nat} {p : M2} (h : PAt w b o p) (k : Ext w w') : PAt w' b o p := ⟨k.cellOf h.1, k.cellOf h.2⟩
def Mxs (w : World) (a : Option Addr) (ps : List M2) : Prop :=
  ps.length ≤ maxLen ∧ (ps = [] ∨ ∃ b off, a = some ⟨b, off, none⟩ ∧ ∀ i, i < ps.length → PAt w b (off + i * 2) (px ps i))
theorem Mxs.ext {w w' : World} {a : Option Addr} {ps : List M2} (h : Mxs w a ps) (k : Ext w w') : Mxs w' a ps := by
  refine ⟨h.1, ?_⟩
  rcases h.2 with h | ⟨b, off, ha, h⟩
  · exact .inl h
  · exact .inr ⟨b, off, ha, fun i hi => (h i hi).ext k⟩
theorem Mxs.row {w : World} {a : Option Addr} {ps : List M2} (h : Mxs w a ps) (h0 : 0 < ps.length) : ∃ b off, a = some ⟨b, off, none⟩ ∧ ∀ i, i < ps.length → PAt w b (off + i * 2) (px ps i) := by
  rcases h.2 with e | e
  · rw [e] at h0; simp at h0
  · exact e
def OwnM (w : World) (base : Nat) (v : Value) (ps : List M2) : Prop := w.ownsRow base 235 2 v ps.length (cellsM ps)
theorem OwnM.ext {w w' : World} {base : Nat} {v : Value} {ps : List M2} (h : OwnM w base v ps) (k : Ext w w') : OwnM w' base v ps := row_ext h k
theorem OwnM.chg {w w' : World} {base B : Nat} {v : Value} {ps : List M2} (h : OwnM w base v ps) (k : Chg B w w') (hB : v.ownBlock ≠ some B) : OwnM w' base v ps :=
  World.ownsRow.kept h (row := some B) ⟨k.os, k.tape, k.output, k.size, fun i hi hne => k.block i hi (fun e => hne (by rw [e]))⟩ (.inr hB)
theorem OwnM.mono {w : World} {base b2 : Nat} {v : Value} {ps : List M2} (h : OwnM w base v ps) (hb : b2 ≤ base) : OwnM w b2 v ps := row_mono h hb
theorem OwnM.nil (w : World) (base : Nat) : OwnM w base (.slice none 0 0) [] := World.ownsRow_nil w base _ 2
theorem OwnM.snoc {w : World} {base : Nat} {v : Value} {ps : List M2} {p : M2} (h : w.ownsRow base 235 2 v (ps.length + 1) (cellsM ps ++ [.int .i64 p.x, .int .i64 p.y])) : OwnM w base v (ps ++ [p]) := by
  unfold OwnM; rw [← cellsM_app, List.length_append]; exact h
theorem OwnM.block {w : World} {base : Nat} {v : Value} {ps : List M2} (h : OwnM w base v ps) {B : Nat} (hB : B < base) : v.ownBlock ≠ some B := fun e => by have := (World.ownsRow.lt h B e).1; omega
theorem OwnM.cases {w : World} {base : Nat} {v : Value} {ps : List M2} (h : OwnM w base v ps) :
    (v = .slice none 0 0 ∧ ps = []) ∨ ∃ g cap, v = .slice (some ⟨g, 0, none⟩) ps.length cap ∧ base ≤ g ∧ (∀ i, i < ps.length → PAt w g (i * 2) (px ps i)) ∧ (∀ j, w.frozen? ⟨g, j, none⟩ = false) ∧ v.ownBlock = some g := by
  have h0 := h
  rcases h.2 with ⟨hv, hn⟩ | ⟨g, cap, cur, hv, hb, hg, hc, hm, hs, ht⟩
  · exact .inl ⟨hv, List.length_eq_zero_iff.1 hn⟩
  · rw [hv] at h0
    refine .inr ⟨g, cap, hv, hb, fun i hi => ?_, fun j => World.ownsRow.frozenAt h0 j, by rw [hv]; rfl⟩
    obtain ⟨c0, c1⟩ := cellsM_get ps i _ (px_at hi)
    exact ⟨by rw [World.ownsRow.cellAt h0 (i * 2) (by omega)]; exact c0, by rw [World.ownsRow.cellAt h0 (i * 2 + 1) (by omega)]; exact c1⟩
theorem OwnM.mxs {w : World} {base : Nat} {v : Value} {ps : List M2} (h : OwnM w base v ps) (hl : ps.length ≤ maxLen) : ∃ a cap, v = .slice a ps.length cap ∧ Mxs w a ps := by
  rcases h.cases with ⟨hv, rfl⟩ | ⟨g, cap, hv, _, hc, _⟩
  · exact ⟨none, 0, hv, hl, .inl rfl⟩
  · exact ⟨some ⟨g, 0, none⟩, cap, hv, hl, .inr ⟨g, 0, rfl, fun i hi => by rw [Nat.zero_add]; exact hc i hi⟩⟩
def MarkedP (w : World) (g : Nat) (k : Int) (j : Nat) : Prop := ∀ i, i < j → PAt w g (i * 2) ⟨k + 2 * i, k + 2 * i + 1⟩
def RoomP (w : World) (g n : Nat) : Prop := ∀ j, j < n * 2 → (∃ v, w.cell? ⟨g, j, none⟩ = some v) ∧ w.frozen? ⟨g, j, none⟩ = false
def RelMP (w : World) (g n : Nat) (k : Int) (s i : Value) (wr : World) : Prop :=
  ∃ j : Nat, i = .int .i64 j ∧ s = .int .i64 (k + 2 * j) ∧ j ≤ n ∧ RoomP wr g n ∧ MarkedP wr g k j ∧ Chg g w wr
theorem RelMP.step {w wr : World} {g n : Nat} {k : Int} {j : Nat} (hj : j < n) (hr : RoomP wr g n) (hm : MarkedP wr g k j) (hx : Chg g w wr) :
    RelMP w g n k (.int .i64 (k + 2 * j + 1 + 1)) (.int .i64 (j + 1)) ((wr.setCell ⟨g, j * 2, none⟩ (.int .i64 (k + 2 * j))).setCell ⟨g, j * 2 + 1, none⟩ (.int .i64 (k + 2 * j + 1))) := by
  obtain ⟨⟨v0, d0⟩, f0⟩ := hr (j * 2) (by omega)
  obtain ⟨⟨v1, d1⟩, f1⟩ := hr (j * 2 + 1) (by omega)
  refine ⟨j + 1, by go_num, by congr 1; omega, by omega, fun i hi => ?_, fun i hi => ?_, (hx.setCell _ _).setCell _ _⟩
  · obtain ⟨⟨v, hv⟩, hf⟩ := hr i hi
    refine ⟨?_, by simp only [World.frozen?_setCell]; exact hf⟩
    by_cases h1 : j * 2 + 1 = i
    · subst h1; exact ⟨_, World.cell?_setCell_same _ _ _ (by rw [set_other _ _ _ _ _ (by omega)]; exact d1)⟩
    · rw [set_other _ _ _ _ _ h1]
      by_cases h0 : j * 2 = i
      · subst h0; exact ⟨_, World.cell?_setCell_same _ _ _ d0⟩
      · rw [set_other _ _ _ _ _ h0]; exact ⟨_, hv⟩
  · by_cases h : i = j
    · subst h
      refine ⟨?_, ?_⟩
      · rw [set_other _ _ _ _ _ (by omega)]; exact World.cell?_setCell_same _ _ _ d0
      · exact World.cell?_setCell_same _ _ _ (by rw [set_other _ _ _ _ _ (by omega)]; exact d1)
    · obtain ⟨g0, g1⟩ := hm i (by omega)
      refine ⟨?_, ?_⟩
      all_goals
        rw [set_other _ _ _ _ _ (by omega), set_other _ _ _ _ _ (by omega)]; assumption
def ChgV (v : Value) (base : Nat) (w w' : World) : Prop := Ext w w' ∨ ∃ B, base ≤ B ∧ v.ownBlock = some B ∧ Chg B w w'
theorem ChgV.ext {v : Value} {base : Nat} {W w w' : World} (h : ChgV v base w w') (k : Ext W w) (hW : W.heap.size ≤ base) : Ext W w' := by
  rcases h with h | ⟨B, hB, _, h⟩
  · exact k.trans h
  · exact h.ext k (by omega)
def HeldP (w : World) (v : Value) (k : Int) (n : Nat) : Prop := (v = .slice none 0 0 ∧ n = 0) ∨ ∃ g cap, v = .slice (some ⟨g, 0, none⟩) n cap ∧ MarkedP w g k n
theorem HeldP.ext {w w' : World} {v : Value} {k : Int} {n : Nat} (h : HeldP w v k n) (x : Ext w w') : HeldP w' v k n := by
  rcases h with h | ⟨g, cap, e, h⟩
  · exact .inl h
  · exact .inr ⟨g, cap, e, fun i hi => (h i hi).ext x⟩
end Go.Proofs.YtmlojndkpnhalaaGreat.Mnv
