import Derived.Test.YtpdnefodbichkaaMtx2
import Derived.Test.YtpdnefodbichkaaMCrs2
import Derived.Deep.RegionHeld3
import Derived.Deep.DeepCutAuto
import Derived.Test.YtpdnefodbichkaaMSta5
namespace Go.Proofs.Ytpdnefodbichkaa.Crs
open Go.ChangeShapes Go.WideShapes Go.ChangeAt Go.RowKit
open Go.Proofs.Ytpdnefodbichkaa.Num Go.Proofs.Ytpdnefodbichkaa.Kit Go.Proofs.Ytpdnefodbichkaa.Pts Go.Proofs.Ytpdnefodbichkaa.Seg
set_option linter.unusedVariables false
set_option linter.unusedSimpArgs false
def cellsM (ms : List M5) : List Value := ms.flatMap fun m => [.string m.n, .int .i64 m.x, .int .i64 m.y, .int .i64 m.s, .int .i64 m.z]
theorem cellsM_len : ∀ ms : List M5, (cellsM ms).length = ms.length * 5
  | [] => rfl
  | m :: ms => by
    have := cellsM_len ms
    simp only [cellsM, List.flatMap_cons, List.length_append, List.length_cons, List.length_nil] at this ⊢
    omega
theorem cellsM_get : ∀ (ms : List M5) (i : Nat), i < ms.length → (cellsM ms)[i * 5]? = some (.string (mk ms i).n) ∧ (cellsM ms)[i * 5 + 1]? = some (.int .i64 (mk ms i).x) ∧ (cellsM ms)[i * 5 + 2]? = some (.int .i64 (mk ms i).y) ∧ (cellsM ms)[i * 5 + 3]? = some (.int .i64 (mk ms i).s) ∧ (cellsM ms)[i * 5 + 4]? = some (.int .i64 (mk ms i).z)
  | [], i, h => absurd h (by simp)
  | m :: ms, 0, _ => by simp [cellsM, mk]
  | m :: ms, i + 1, h => by
    have := cellsM_get ms i (by simpa using h)
    have e : cellsM (m :: ms) = .string m.n :: .int .i64 m.x :: .int .i64 m.y :: .int .i64 m.s :: .int .i64 m.z :: cellsM ms := by simp [cellsM]
    rw [e, show (i + 1) * 5 = i * 5 + 5 by omega]
    simpa [mk] using this
theorem cellsM_one : ∀ (ms : List M5) (u : Value), u ∈ cellsM ms → u.oneCell' = true := by
  intro ms u hu
  simp only [cellsM, List.mem_flatMap] at hu
  obtain ⟨m, _, hu⟩ := hu
  simp at hu
  rcases hu with rfl | rfl | rfl | rfl | rfl <;> rfl
theorem at_cellsM {w : World} {b off : Nat} {ms : List M5} (h : ∀ i, i < ms.length → At w b (off + i * 5) (mk ms i)) : ∀ (j : Nat) (u : Value), (cellsM ms)[j]? = some u → w.cell? ((⟨b, off, none⟩ : Addr).add j) = some u := by
  intro j u hu
  have hj : j < ms.length * 5 := by rw [← cellsM_len]; exact (List.getElem?_eq_some_iff.1 hu).1
  obtain ⟨c0, c1, c2, c3, c4⟩ := h (j / 5) (by omega)
  obtain ⟨d0, d1, d2, d3, d4⟩ := cellsM_get ms (j / 5) (by omega)
  rw [show (⟨b, off, none⟩ : Addr).add j = ⟨b, off + j, none⟩ by simp [Addr.add]]
  rcases (show j = j / 5 * 5 ∨ j = j / 5 * 5 + 1 ∨ j = j / 5 * 5 + 2 ∨ j = j / 5 * 5 + 3 ∨ j = j / 5 * 5 + 4 by omega) with e | e | e | e | e
  · rw [e] at hu ⊢; rw [d0] at hu; cases hu; exact c0
  · rw [e] at hu ⊢; rw [d1] at hu; cases hu; rw [← Nat.add_assoc]; exact c1
  · rw [e] at hu ⊢; rw [d2] at hu; cases hu; rw [← Nat.add_assoc]; exact c2
  · rw [e] at hu ⊢; rw [d3] at hu; cases hu; rw [← Nat.add_assoc]; exact c3
  · rw [e] at hu ⊢; rw [d4] at hu; cases hu; rw [← Nat.add_assoc]; exact c4
def OwnM (w : World) (base : Nat) (v : Value) (ms : List M5) : Prop := w.ownsRow base 49 5 v ms.length (cellsM ms)
theorem OwnM.ext {w w' : World} {base : Nat} {v : Value} {ms : List M5} (h : OwnM w base v ms) (k : Ext w w') : OwnM w' base v ms := row_ext h k
theorem OwnM.chg {w w' : World} {base B : Nat} {v : Value} {ms : List M5} (h : OwnM w base v ms) (k : Chg B w w') (hB : v.ownBlock ≠ some B) : OwnM w' base v ms :=
  World.ownsRow.kept h (row := some B) ⟨k.os, k.tape, k.output, k.size, fun i hi hne => k.block i hi (fun e => hne (by rw [e]))⟩ (.inr hB)
theorem OwnM.block {w : World} {base : Nat} {v : Value} {ms : List M5} (h : OwnM w base v ms) {B : Nat} (hB : B < base) : v.ownBlock ≠ some B := fun e => by have := (World.ownsRow.lt h B e).1; omega
theorem OwnM.cases {w : World} {base : Nat} {v : Value} {ms : List M5} (h : OwnM w base v ms) :
    (v = .slice none 0 0 ∧ ms = []) ∨ ∃ g cap, v = .slice (some ⟨g, 0, none⟩) ms.length cap ∧ base ≤ g ∧ Own w g ms ∧ v.ownBlock = some g := by
  have h0 := h
  rcases h.2 with ⟨hv, hn⟩ | ⟨g, cap, cur, hv, hb, hg, hc, hm, hs, ht⟩
  · exact .inl ⟨hv, List.length_eq_zero_iff.1 hn⟩
  · rw [hv] at h0
    refine .inr ⟨g, cap, hv, hb, fun i hi => ?_, by rw [hv]; rfl⟩
    obtain ⟨c0, c1, c2, c3, c4⟩ := cellsM_get ms i hi
    exact ⟨⟨by rw [World.ownsRow.cellAt h0 (i * 5) (by omega)]; exact c0, by rw [World.ownsRow.cellAt h0 (i * 5 + 1) (by omega)]; exact c1, by rw [World.ownsRow.cellAt h0 (i * 5 + 2) (by omega)]; exact c2, by rw [World.ownsRow.cellAt h0 (i * 5 + 3) (by omega)]; exact c3, by rw [World.ownsRow.cellAt h0 (i * 5 + 4) (by omega)]; exact c4⟩, World.ownsRow.frozenAt h0 _, World.ownsRow.frozenAt h0 _, World.ownsRow.frozenAt h0 _, World.ownsRow.frozenAt h0 _, World.ownsRow.frozenAt h0 _⟩
theorem OwnM.mks {w : World} {base : Nat} {v : Value} {ms : List M5} (h : OwnM w base v ms) (hl : ms.length ≤ maxLen ∧ Fit ms) : ∃ a cap, v = .slice a ms.length cap ∧ Mks w a ms := by
  rcases h.cases with ⟨hv, rfl⟩ | ⟨g, cap, hv, _, hO, _⟩
  · exact ⟨none, 0, hv, hl, .inl rfl⟩
  · exact ⟨some ⟨g, 0, none⟩, cap, hv, hO.mks hl⟩
theorem mk_take (ms : List M5) (n i : Nat) (h : i < n) : mk (ms.take n) i = mk ms i := by
  unfold mk
  rw [List.getD_eq_getElem?_getD, List.getD_eq_getElem?_getD, List.getElem?_take, if_pos h]
theorem Mks.take {w : World} {a : Option Addr} {ms : List M5} (h : Mks w a ms) (n : Nat) : Mks w a (ms.take n) := by
  refine ⟨⟨Nat.le_trans (by simp; omega) h.1.1, fun i hi => ?_⟩, ?_⟩
  · have : i < n ∧ i < ms.length := by simp at hi; omega
    rw [mk_take ms n i this.1]; exact h.1.2 i this.2
  · rcases h.2 with e | ⟨b, off, ha, hb⟩
    · left; rw [e]; simp
    · right
      refine ⟨b, off, ha, fun i hi => ?_⟩
      have : i < n ∧ i < ms.length := by simp at hi; omega
      rw [mk_take ms n i this.1]; exact hb i this.2
end Go.Proofs.Ytpdnefodbichkaa.Crs
namespace Go.Proofs.Ytpdnefodbichkaa.Crs
open Go.ChangeShapes Go.WideShapes Go.ChangeAt Go.RowKit
open Go.Proofs.Ytpdnefodbichkaa.Num Go.Proofs.Ytpdnefodbichkaa.Kit Go.Proofs.Ytpdnefodbichkaa.Pts Go.Proofs.Ytpdnefodbichkaa.Seg
set_option linter.unusedVariables false
set_option linter.unusedSimpArgs false
abbrev put9 (w : World) (B : Nat) (a b c d e f g h i : Value) : World := (((((((((w).setCell ⟨B, 0, none⟩ (a)).setCell ⟨B, 1, none⟩ (b)).setCell ⟨B, 2, none⟩ (c)).setCell ⟨B, 3, none⟩ (d)).setCell ⟨B, 4, none⟩ (e)).setCell ⟨B, 5, none⟩ (f)).setCell ⟨B, 6, none⟩ (g)).setCell ⟨B, 7, none⟩ (h)).setCell ⟨B, 8, none⟩ (i)
theorem Box.put9 {w : World} {n : Nat} {x0 x1 x2 x3 x4 x5 x6 x7 x8 : Value} (H : Box w n [x0, x1, x2, x3, x4, x5, x6, x7, x8]) (a b c d e f g h i : Value) : Box (Crs.put9 w n a b c d e f g h i) n [a, b, c, d, e, f, g, h, i] :=
  ((((((((H.set 0 (by simp) a).set 1 (by simp) b).set 2 (by simp) c).set 3 (by simp) d).set 4 (by simp) e).set 5 (by simp) f).set 6 (by simp) g).set 7 (by simp) h).set 8 (by simp) i
theorem Box.put9_away {w : World} {n m : Nat} {vs : List Value} (H : Box w m vs) (hn : n ≠ m) (a b c d e f g h i : Value) : Box (Crs.put9 w n a b c d e f g h i) m vs :=
  ((((((((H.away hn a).away hn b).away hn c).away hn d).away hn e).away hn f).away hn g).away hn h).away hn i
theorem Ext.put9 {w0 w : World} {n : Nat} (H : Ext w0 w) (hn : w0.heap.size ≤ n) (a b c d e f g h i : Value) : Ext w0 (Crs.put9 w n a b c d e f g h i) :=
  ((((((((H.setNew hn a).setNew hn b).setNew hn c).setNew hn d).setNew hn e).setNew hn f).setNew hn g).setNew hn h).setNew hn i
theorem Chg.put9 {w : World} {n : Nat} (a b c d e f g h i : Value) : Chg n w (Crs.put9 w n a b c d e f g h i) :=
  ((((((((Chg.refl n w).setCell 0 a).setCell 1 b).setCell 2 c).setCell 3 d).setCell 4 e).setCell 5 f).setCell 6 g).setCell 7 h |>.setCell 8 i
end Go.Proofs.Ytpdnefodbichkaa.Crs
namespace Go.Proofs.Ytpdnefodbichkaa.Crs
open Go.ChangeShapes Go.WideShapes Go.ChangeAt Go.RowKit
open Go.Proofs.Ytpdnefodbichkaa.Num Go.Proofs.Ytpdnefodbichkaa.Kit Go.Proofs.Ytpdnefodbichkaa.Pts Go.Proofs.Ytpdnefodbichkaa.Seg
set_option linter.unusedVariables false
set_option linter.unusedSimpArgs false
theorem OwnM.apart {w : World} {base B : Nat} {v : Value} {ms : List M5} {z : Int} (h : OwnM w base v ms) (h0 : 0 < ms.length) (hB : w.cell? ⟨B, 0, none⟩ = some (.int .i64 z)) : v.ownBlock ≠ some B := by
  rcases h.cases with ⟨hv, _⟩ | ⟨g, cap, hv, _, hO, hb⟩
  · rw [hv]; simp [Value.ownBlock]
  · rw [hb]
    intro e
    injection e with e
    subst e
    have c := (hO 0 h0).1.1
    simp only [Nat.zero_mul] at c
    rw [hB] at c
    cases c
theorem Box.grown {w w' : World} {n : Nat} {vs : List Value} {v : Value} {g : Nat} (H : Box w n vs) (hg : w.grownBy w' v.ownBlock) (hv : v.ownBlock = some g) (hn : n ≠ g) : Box w' n vs :=
  Box.chg H (B := g) ⟨hg.os, hg.tape, hg.output, hg.size, fun i hi hne => hg.block i hi (fun e => hne (by rw [hv] at e; injection e))⟩ hn
end Go.Proofs.Ytpdnefodbichkaa.Crs
