/- Rows of fixes that a call makes itself and that grow. -/
import Derived.Test.YtknelhceaoblhaaFxs
import Derived.Test.YtknelhceaoblhaaRes
namespace Go.Proofs.Ytknelhceaoblhaa.Trk
open Go.ChangeShapes Go.WideShapes Go.ChangeAt Go.RowKit
open Go.Proofs.Ytknelhceaoblhaa.Num Go.Proofs.Ytknelhceaoblhaa.Kit Go.Proofs.Ytknelhceaoblhaa.Pts
set_option linter.unusedVariables false
set_option linter.unusedSimpArgs false

def cellsF (fs : List F3) : List Value := fs.flatMap fun f => [.int .i64 f.t, .int .i64 f.x, .int .i64 f.y]
theorem cellsF_len : ∀ fs : List F3, (cellsF fs).length = fs.length * 3
  | [] => rfl
  | f :: fs => by
    have := cellsF_len fs
    simp only [cellsF, List.flatMap_cons, List.length_append, List.length_cons, List.length_nil] at this ⊢
    omega
theorem cellsF_app (fs : List F3) (f : F3) : cellsF fs ++ [.int .i64 f.t, .int .i64 f.x, .int .i64 f.y] = cellsF (fs ++ [f]) := by simp [cellsF]
theorem cellsF_app2 (fs gs : List F3) : cellsF fs ++ cellsF gs = cellsF (fs ++ gs) := by simp [cellsF]
theorem cellsF_get : ∀ (fs : List F3) (i : Nat), i < fs.length → (cellsF fs)[i * 3]? = some (.int .i64 (fx fs i).t) ∧ (cellsF fs)[i * 3 + 1]? = some (.int .i64 (fx fs i).x) ∧ (cellsF fs)[i * 3 + 2]? = some (.int .i64 (fx fs i).y)
  | [], i, h => absurd h (by simp)
  | f :: fs, 0, _ => by simp [cellsF, fx]
  | f :: fs, i + 1, h => by
    have := cellsF_get fs i (by simpa using h)
    have e : cellsF (f :: fs) = .int .i64 f.t :: .int .i64 f.x :: .int .i64 f.y :: cellsF fs := by simp [cellsF]
    rw [e, show (i + 1) * 3 = i * 3 + 3 by omega]
    simpa [fx] using this
theorem cellsF_one : ∀ (fs : List F3) (u : Value), u ∈ cellsF fs → u.oneCell' = true := by
  intro fs u hu
  simp only [cellsF, List.mem_flatMap] at hu
  obtain ⟨f, _, hu⟩ := hu
  simp at hu
  rcases hu with rfl | rfl | rfl <;> rfl

/-- A slice of fixes that the call made itself: nil, or a row in a block of its own from 'base' on, which may be written. -/
def OwnF (w : World) (base : Nat) (v : Value) (fs : List F3) : Prop := w.ownsRow base 73 3 v fs.length (cellsF fs)

theorem OwnF.fxs {w : World} {base : Nat} {v : Value} {fs : List F3} (h : OwnF w base v fs) : ∃ a cap, v = .slice a fs.length cap ∧ fs.length ≤ cap ∧ Fxs w a fs ∧ (fs = [] ∨ ∃ g, a = some ⟨g, 0, none⟩ ∧ base ≤ g ∧ Own w g fs) := by
  have h0 := h
  rcases h.2 with ⟨hv, hn⟩ | ⟨g, cap, cur, hv, hb, hg, hc, hm, hs, ht⟩
  · have e : fs = [] := List.length_eq_zero_iff.1 hn
    subst e
    exact ⟨none, 0, hv, Nat.le_refl _, ⟨by simp [maxLen], .inl rfl⟩, .inl rfl⟩
  · rw [hv] at h0
    have hO : Own w g fs := fun i hi => by
      obtain ⟨c0, c1, c2⟩ := cellsF_get fs i hi
      exact ⟨⟨by rw [h0.cellAt (i * 3) (by omega)]; exact c0, by rw [h0.cellAt (i * 3 + 1) (by omega)]; exact c1, by rw [h0.cellAt (i * 3 + 2) (by omega)]; exact c2⟩, h0.frozenAt _, h0.frozenAt _, h0.frozenAt _⟩
    exact ⟨some ⟨g, 0, none⟩, cap, hv, hc, hO.fxs (by omega), .inr ⟨g, rfl, hb, hO⟩⟩

theorem OwnF.nil (w : World) (base : Nat) : OwnF w base (.slice none 0 0) [] := World.ownsRow_nil w base _ 3
theorem OwnF.chg {w w' : World} {base B : Nat} {v : Value} {fs : List F3} (h : OwnF w base v fs) (k : Chg B w w') (hB : v.ownBlock ≠ some B) : OwnF w' base v fs :=
  World.ownsRow.kept h (row := some B) ⟨k.os, k.tape, k.output, k.size, fun i hi hne => k.block i hi (fun e => hne (by rw [e]))⟩ (.inr hB)
theorem OwnF.ext {w w' : World} {base : Nat} {v : Value} {fs : List F3} (h : OwnF w base v fs) (k : Ext w w') : OwnF w' base v fs := by
  refine World.ownsRow.kept h (row := none) ⟨Below.os k, Below.tape k, Below.output k, Below.size k, fun i hi _ => Below.block k i hi⟩ ?_
  cases v.ownBlock with
  | none => exact .inl rfl
  | some g => exact .inr (by simp)
theorem OwnF.block {w : World} {base : Nat} {v : Value} {fs : List F3} (h : OwnF w base v fs) {B : Nat} (hB : B < base) : v.ownBlock ≠ some B := fun e => by have := (World.ownsRow.lt h B e).1; omega
/-- What an append to such a row leaves of the rest. -/
theorem grown_chg {w w' : World} {base : Nat} {v : Value} {fs : List F3} {B : Nat} {w0 : World} (h : OwnF w base v fs) (hg : w.grownBy w' v.ownBlock) (hb : w0.heap.size ≤ base) (hc : Chg B w0 w) : Chg B w0 w' :=
  ⟨hg.os.trans hc.os, hg.tape.trans hc.tape, hg.output.trans hc.output, Nat.le_trans hc.size hg.size, fun k hk hkB => (hg.block k (Nat.lt_of_lt_of_le hk hc.size) (fun e => by have := (World.ownsRow.lt h k e.symm).1; omega)).trans (hc.block k hk hkB)⟩
theorem grown_ext {w w' : World} {base : Nat} {v : Value} {fs : List F3} {w0 : World} (h : OwnF w base v fs) (hg : w.grownBy w' v.ownBlock) (hb : w0.heap.size ≤ base) (hc : Ext w0 w) : Ext w0 w' :=
  ⟨hg.os.trans (Below.os hc), hg.tape.trans (Below.tape hc), hg.output.trans (Below.output hc), Nat.le_trans (Below.size hc) hg.size, fun k hk => (hg.block k (Nat.lt_of_lt_of_le hk (Below.size hc)) (fun e => by have := (World.ownsRow.lt h k e.symm).1; omega)).trans (Below.block hc k hk)⟩
theorem grown_box {w w' : World} {base : Nat} {v : Value} {fs : List F3} {n : Nat} {vs : List Value} (h : OwnF w base v fs) (hg : w.grownBy w' v.ownBlock) (hn : v.ownBlock ≠ some n) (hbx : Box w n vs) : Box w' n vs := by
  intro i u hu
  obtain ⟨c, f⟩ := hbx i u hu
  have hl := World.block_lt_of_cell? w _ c
  have e := hg.block n hl (fun e => hn e.symm)
  exact ⟨by rw [World.cell?_of_block (w := w) (a := ⟨n, i, none⟩) e]; exact c, by rw [World.frozen?_of_block (w := w) (a := ⟨n, i, none⟩) e]; exact f⟩

theorem OwnF.mono {w : World} {base b2 : Nat} {v : Value} {fs : List F3} (h : OwnF w base v fs) (hb : b2 ≤ base) : OwnF w b2 v fs := by
  refine ⟨h.1, ?_⟩
  rcases h.2 with h1 | ⟨g, cap, cur, hv, hg, r⟩
  · exact .inl h1
  · exact .inr ⟨g, cap, cur, hv, by omega, r⟩
/-- One fix is put behind a row. -/
theorem OwnF.snoc {w : World} {base : Nat} {v : Value} {fs : List F3} {t x y : Int} (h : w.ownsRow base 73 3 v (fs.length + 1) (cellsF fs ++ [.int .i64 t, .int .i64 x, .int .i64 y])) : OwnF w base v (fs ++ [⟨t, x, y⟩]) := by
  rw [cellsF_app fs ⟨t, x, y⟩] at h
  unfold OwnF
  rw [List.length_append]
  exact h
theorem one_cells {w : World} {t x y : Int} {ty : TypeId} : ∀ (j : Nat) (u : Value), ([Value.int .i64 t, .int .i64 x, .int .i64 y] : List Value)[j]? = some u → (w.alloc (.cells #[.int .i64 t, .int .i64 x, .int .i64 y] ty)).cell? ((⟨w.heap.size, 0, none⟩ : Addr).add j) = some u := by
  intro j u hu
  rw [show (⟨w.heap.size, 0, none⟩ : Addr).add j = ⟨w.heap.size, j, none⟩ by simp [Addr.add]; omega]
  exact boxed j (by simpa using hu) rfl
theorem one_ones {t x y : Int} : ∀ u ∈ ([Value.int .i64 t, .int .i64 x, .int .i64 y] : List Value), u.oneCell' = true := by
  intro u hu
  simp at hu
  rcases hu with rfl | rfl | rfl <;> rfl

end Go.Proofs.Ytknelhceaoblhaa.Trk
