import Derived.Test.YtplbahdomjeekaaGreatMMom
import Derived.Test.YtplbahdomjeekaaGreatMRel
import Derived.RangeFuncNested
import Derived.RangeFuncBound
import Derived.RangeFuncCalls
import Derived.RangeFuncLeaves
import Derived.Shelf.Abstract
import Derived.Shelf.RegionOpen
import Derived.OwnWalkIn
import Derived.TacticsInMore
import Derived.LoopNIn
import Derived.LoopIn
import Derived.Test.YtplbahdomjeekaaGreatMPts
import Derived.Test.YtplbahdomjeekaaGreatOrd
import Derived.Test.YtplbahdomjeekaaGreatMKit
import Derived.Deep.DeepCutAuto
namespace Go.Proofs.YtplbahdomjeekaaGreat.Trk
open Go.ChangeShapes Go.WideShapes Go.ChangeAt Go.RowKit
open Go.Proofs.YtplbahdomjeekaaGreat.Num Go.Proofs.YtplbahdomjeekaaGreat.Kit Go.Proofs.YtplbahdomjeekaaGreat.Pts Go.Proofs.YtplbahdomjeekaaGreat.Seg Go.Proofs.YtplbahdomjeekaaGreat.Gcd Go.Proofs.YtplbahdomjeekaaGreat.Crs
set_option linter.unusedVariables false
set_option linter.unusedSimpArgs false
structure C5 where
  t : Int
  l : Int
  g : Int
  x : Int
  y : Int
deriving DecidableEq
def lB (fs : List F3) (a b c d : Int) (k : Nat) : Int := crs a b c d (fx fs (k + 1)).x (fx fs (k + 1)).y
def cellsC (cs : List C5) : List Value := cs.flatMap fun c => [.int .i64 c.t, .int .i64 c.l, .int .i64 c.g, .int .i64 c.x, .int .i64 c.y]
def cx (cs : List C5) (i : Nat) : C5 := cs.getD i ⟨0, 0, 0, 0, 0⟩
theorem cellsC_get : ∀ (cs : List C5) (i : Nat), i < cs.length → (cellsC cs)[i * 5]? = some (.int .i64 (cx cs i).t) ∧ (cellsC cs)[i * 5 + 1]? = some (.int .i64 (cx cs i).l) ∧ (cellsC cs)[i * 5 + 2]? = some (.int .i64 (cx cs i).g) ∧ (cellsC cs)[i * 5 + 3]? = some (.int .i64 (cx cs i).x) ∧ (cellsC cs)[i * 5 + 4]? = some (.int .i64 (cx cs i).y)
  | [], i, h => absurd h (by simp)
  | c :: cs, 0, _ => by simp [cellsC, cx]
  | c :: cs, i + 1, h => by
    have := cellsC_get cs i (by simpa using h)
    have e : cellsC (c :: cs) = .int .i64 c.t :: .int .i64 c.l :: .int .i64 c.g :: .int .i64 c.x :: .int .i64 c.y :: cellsC cs := by simp [cellsC]
    rw [e, show (i + 1) * 5 = i * 5 + 5 by omega]
    simpa [cx] using this
end Go.Proofs.YtplbahdomjeekaaGreat.Trk
namespace Go.Proofs.YtplbahdomjeekaaGreat.Trk
open Go.ChangeShapes Go.WideShapes Go.ChangeAt Go.RowKit Go.Shelf
open Go.Proofs.YtplbahdomjeekaaGreat.Num Go.Proofs.YtplbahdomjeekaaGreat.Kit Go.Proofs.YtplbahdomjeekaaGreat.Pts Go.Proofs.YtplbahdomjeekaaGreat.Seg Go.Proofs.YtplbahdomjeekaaGreat.Gcd Go.Proofs.YtplbahdomjeekaaGreat.Crs
set_option linter.unusedVariables false
set_option linter.unusedSimpArgs false
attribute [local go_sem] Oper.semAt_some
def Kp (n0 B : Nat) (W W' : World) : Prop := Below n0 W W' ∧ W'.heap[B]? = W.heap[B]? ∧ W'.heap[B + 1]? = W.heap[B + 1]?
theorem Kp.refl (n0 B : Nat) (W : World) : Kp n0 B W W := ⟨Below.refl _ _, rfl, rfl⟩
theorem Kp.trans {n0 B : Nat} {X Y Z : World} (h : Kp n0 B X Y) (k : Kp n0 B Y Z) : Kp n0 B X Z := ⟨h.1.trans k.1, k.2.1.trans h.2.1, k.2.2.trans h.2.2⟩
theorem Kp.ext {n0 B : Nat} {W W' : World} (h : Ext W W') (hn : n0 ≤ W.heap.size) (hB : B + 1 < W.heap.size) : Kp n0 B W W' :=
  ⟨Below.mono h hn, Below.block h B (by omega), Below.block h (B + 1) hB⟩
end Go.Proofs.YtplbahdomjeekaaGreat.Trk
namespace Go.Proofs.YtplbahdomjeekaaGreat.Trk
open Go.ChangeShapes Go.WideShapes Go.ChangeAt Go.RowKit Go.Shelf
open Go.Proofs.YtplbahdomjeekaaGreat.Num Go.Proofs.YtplbahdomjeekaaGreat.Kit Go.Proofs.YtplbahdomjeekaaGreat.Pts Go.Proofs.YtplbahdomjeekaaGreat.Seg Go.Proofs.YtplbahdomjeekaaGreat.Gcd Go.Proofs.YtplbahdomjeekaaGreat.Crs
set_option linter.unusedVariables false
set_option linter.unusedSimpArgs false
attribute [local go_sem] Oper.semAt_some
def VC (W : World) (Bx : Nat) (c : C5) : Prop := ∀ i v, ([.int .i64 c.t, .int .i64 c.l, .int .i64 c.g, .int .i64 c.x, .int .i64 c.y] : List Value)[i]? = some v → W.cell? ⟨Bx, i, none⟩ = some v
theorem VC.new (W : World) (c : C5) (t : TypeId) : VC (W.alloc (.cells #[.int .i64 c.t, .int .i64 c.l, .int .i64 c.g, .int .i64 c.x, .int .i64 c.y] t)) W.heap.size c := fun i v h => boxed i (by simpa using h) rfl
theorem Kp.set {n0 B F : Nat} (W : World) (v : Value) (h0 : n0 ≤ F) (h1 : B ≠ F) (h2 : B + 1 ≠ F) : Kp n0 B W (W.setCell ⟨F, 0, none⟩ v) :=
  ⟨(Below.refl n0 W).setCell (p := ⟨F, 0, none⟩) h0 _, Below.heap_setCell W ⟨F, 0, none⟩ v B h1, Below.heap_setCell W ⟨F, 0, none⟩ v (B + 1) h2⟩
end Go.Proofs.YtplbahdomjeekaaGreat.Trk
namespace Go.Proofs.YtplbahdomjeekaaGreat.Trk
open Go.ChangeShapes Go.WideShapes Go.ChangeAt Go.RowKit Go.Shelf
open Go.Proofs.YtplbahdomjeekaaGreat.Num Go.Proofs.YtplbahdomjeekaaGreat.Kit Go.Proofs.YtplbahdomjeekaaGreat.Pts Go.Proofs.YtplbahdomjeekaaGreat.Seg Go.Proofs.YtplbahdomjeekaaGreat.Gcd Go.Proofs.YtplbahdomjeekaaGreat.Crs
set_option linter.unusedVariables false
set_option linter.unusedSimpArgs false
attribute [local go_sem] Oper.semAt_some
abbrev CL (c : C5) : List Value := [.int .i64 c.t, .int .i64 c.l, .int .i64 c.g, .int .i64 c.x, .int .i64 c.y]
end Go.Proofs.YtplbahdomjeekaaGreat.Trk
namespace Go.Proofs.YtplbahdomjeekaaGreat.Rwk
open Go.ChangeShapes Go.WideShapes Go.ChangeAt Go.RowKit
open Go.Proofs.YtplbahdomjeekaaGreat.Num Go.Proofs.YtplbahdomjeekaaGreat.Kit Go.Proofs.YtplbahdomjeekaaGreat.Pts Go.Proofs.YtplbahdomjeekaaGreat.Seg Go.Proofs.YtplbahdomjeekaaGreat.Trk
set_option linter.unusedVariables false
set_option linter.unusedSimpArgs false
theorem row_ext {w w' : World} {base size n : Nat} {e : TypeId} {v : Value} {xs : List Value} (h : w.ownsRow base e size v n xs) (k : Ext w w') : w'.ownsRow base e size v n xs := by
  refine World.ownsRow.kept h (row := none) ⟨Below.os k, Below.tape k, Below.output k, Below.size k, fun i hi _ => Below.block k i hi⟩ ?_
  cases v.ownBlock with
  | none => exact .inl rfl
  | some g => exact .inr (by simp)
theorem row_grown {w w' : World} {base size n : Nat} {e : TypeId} {v : Value} {xs : List Value} {w0 : World} (h : w.ownsRow base e size v n xs) (hg : w.grownBy w' v.ownBlock) (hb : w0.heap.size ≤ base) (hc : Ext w0 w) : Ext w0 w' :=
  ⟨hg.os.trans (Below.os hc), hg.tape.trans (Below.tape hc), hg.output.trans (Below.output hc), Nat.le_trans (Ext.size hc) hg.size, fun k hk => (hg.block k (Nat.lt_of_lt_of_le hk (Ext.size hc)) (fun e => by have := (World.ownsRow.lt h k e.symm).1; omega)).trans (Below.block hc k hk)⟩
theorem row_mono {w : World} {base b2 size n : Nat} {e : TypeId} {v : Value} {xs : List Value} (h : w.ownsRow base e size v n xs) (hb : b2 ≤ base) : w.ownsRow b2 e size v n xs := by
  refine ⟨h.1, ?_⟩
  rcases h.2 with h1 | ⟨g, cap, cur, hv, hg, r⟩
  · exact .inl h1
  · exact .inr ⟨g, cap, cur, hv, by omega, r⟩
def OwnC (w : World) (base : Nat) (v : Value) (cs : List C5) : Prop := w.ownsRow base 198 5 v cs.length (cellsC cs)
theorem OwnC.ext {w w' : World} {base : Nat} {v : Value} {cs : List C5} (h : OwnC w base v cs) (k : Ext w w') : OwnC w' base v cs := row_ext h k
theorem OwnC.mono {w : World} {base b2 : Nat} {v : Value} {cs : List C5} (h : OwnC w base v cs) (hb : b2 ≤ base) : OwnC w b2 v cs := row_mono h hb
theorem OwnC.chg {w w' : World} {base B : Nat} {v : Value} {cs : List C5} (h : OwnC w base v cs) (k : Chg B w w') (hB : v.ownBlock ≠ some B) : OwnC w' base v cs :=
  World.ownsRow.kept h (row := some B) ⟨k.os, k.tape, k.output, k.size, fun i hi hne => k.block i hi (fun e => hne (by rw [e]))⟩ (.inr hB)
theorem OwnC.block {w : World} {base : Nat} {v : Value} {cs : List C5} (h : OwnC w base v cs) {B : Nat} (hB : B < base) : v.ownBlock ≠ some B := fun e => by have := (World.ownsRow.lt h B e).1; omega
def CAt (w : World) (b o : Nat) (c : C5) : Prop := w.cell? ⟨b, o, none⟩ = some (.int .i64 c.t) ∧ w.cell? ⟨b, o + 1, none⟩ = some (.int .i64 c.l) ∧ w.cell? ⟨b, o + 2, none⟩ = some (.int .i64 c.g) ∧ w.cell? ⟨b, o + 3, none⟩ = some (.int .i64 c.x) ∧ w.cell? ⟨b, o + 4, none⟩ = some (.int .i64 c.y)
theorem CAt.ext {w w' : World} {b o : Nat} {c : C5} (h : CAt w b o c) (k : Ext w w') : CAt w' b o c := ⟨k.cellOf h.1, k.cellOf h.2.1, k.cellOf h.2.2.1, k.cellOf h.2.2.2.1, k.cellOf h.2.2.2.2⟩
theorem OwnC.cases {w : World} {base : Nat} {v : Value} {cs : List C5} (h : OwnC w base v cs) :
    (v = .slice none 0 0 ∧ cs = []) ∨ ∃ g cap, v = .slice (some ⟨g, 0, none⟩) cs.length cap ∧ base ≤ g ∧ (∀ i, i < cs.length → CAt w g (i * 5) (cx cs i)) ∧ (∀ j, w.frozen? ⟨g, j, none⟩ = false) ∧ v.ownBlock = some g := by
  have h0 := h
  rcases h.2 with ⟨hv, hn⟩ | ⟨g, cap, cur, hv, hb, hg, hc, hm, hs, ht⟩
  · exact .inl ⟨hv, List.length_eq_zero_iff.1 hn⟩
  · rw [hv] at h0
    refine .inr ⟨g, cap, hv, hb, fun i hi => ?_, fun j => World.ownsRow.frozenAt h0 j, by rw [hv]; rfl⟩
    obtain ⟨c0, c1, c2, c3, c4⟩ := cellsC_get cs i hi
    exact ⟨by rw [World.ownsRow.cellAt h0 (i * 5) (by omega)]; exact c0, by rw [World.ownsRow.cellAt h0 (i * 5 + 1) (by omega)]; exact c1, by rw [World.ownsRow.cellAt h0 (i * 5 + 2) (by omega)]; exact c2,
      by rw [World.ownsRow.cellAt h0 (i * 5 + 3) (by omega)]; exact c3, by rw [World.ownsRow.cellAt h0 (i * 5 + 4) (by omega)]; exact c4⟩
def Cxs (w : World) (a : Option Addr) (cs : List C5) : Prop :=
  cs.length ≤ maxLen ∧ (cs = [] ∨ ∃ b off, a = some ⟨b, off, none⟩ ∧ ∀ i, i < cs.length → CAt w b (off + i * 5) (cx cs i))
theorem Cxs.ext {w w' : World} {a : Option Addr} {cs : List C5} (h : Cxs w a cs) (k : Ext w w') : Cxs w' a cs := by
  refine ⟨h.1, ?_⟩
  rcases h.2 with h | ⟨b, off, ha, h⟩
  · exact .inl h
  · exact .inr ⟨b, off, ha, fun i hi => (h i hi).ext k⟩
theorem Cxs.row {w : World} {a : Option Addr} {cs : List C5} (h : Cxs w a cs) (h0 : 0 < cs.length) : ∃ b off, a = some ⟨b, off, none⟩ ∧ ∀ i, i < cs.length → CAt w b (off + i * 5) (cx cs i) := by
  rcases h.2 with e | e
  · rw [e] at h0; simp at h0
  · exact e
end Go.Proofs.YtplbahdomjeekaaGreat.Rwk
namespace Go.Proofs.YtplbahdomjeekaaGreat.Rwk
open Go.ChangeShapes Go.WideShapes Go.ChangeAt Go.RowKit
open Go.Proofs.YtplbahdomjeekaaGreat.Num Go.Proofs.YtplbahdomjeekaaGreat.Kit Go.Proofs.YtplbahdomjeekaaGreat.Pts Go.Proofs.YtplbahdomjeekaaGreat.Seg Go.Proofs.YtplbahdomjeekaaGreat.Trk Go.Proofs.YtplbahdomjeekaaGreat.Gcd Go.Proofs.YtplbahdomjeekaaGreat.Crs
set_option linter.unusedVariables false
set_option linter.unusedSimpArgs false
end Go.Proofs.YtplbahdomjeekaaGreat.Rwk
namespace Go.Proofs.YtplbahdomjeekaaGreat.Rwk
open Go.ChangeShapes Go.WideShapes Go.ChangeAt Go.RowKit
open Go.Proofs.YtplbahdomjeekaaGreat.Num Go.Proofs.YtplbahdomjeekaaGreat.Kit Go.Proofs.YtplbahdomjeekaaGreat.Pts Go.Proofs.YtplbahdomjeekaaGreat.Seg Go.Proofs.YtplbahdomjeekaaGreat.Gcd Go.Proofs.YtplbahdomjeekaaGreat.Crs Go.Proofs.YtplbahdomjeekaaGreat.Trk
set_option linter.unusedVariables false
set_option linter.unusedSimpArgs false
end Go.Proofs.YtplbahdomjeekaaGreat.Rwk
namespace Go.Proofs.YtplbahdomjeekaaGreat.Rwk
open Go.ChangeShapes Go.WideShapes Go.ChangeAt Go.RowKit
open Go.Proofs.YtplbahdomjeekaaGreat.Num Go.Proofs.YtplbahdomjeekaaGreat.Kit Go.Proofs.YtplbahdomjeekaaGreat.Pts Go.Proofs.YtplbahdomjeekaaGreat.Seg Go.Proofs.YtplbahdomjeekaaGreat.Gcd Go.Proofs.YtplbahdomjeekaaGreat.Crs Go.Proofs.YtplbahdomjeekaaGreat.Trk
set_option linter.unusedVariables false
set_option linter.unusedSimpArgs false
end Go.Proofs.YtplbahdomjeekaaGreat.Rwk
namespace Go.Proofs.YtplbahdomjeekaaGreat.Rwk
open Go.ChangeShapes Go.WideShapes Go.ChangeAt Go.RowKit
open Go.Proofs.YtplbahdomjeekaaGreat.Num Go.Proofs.YtplbahdomjeekaaGreat.Kit Go.Proofs.YtplbahdomjeekaaGreat.Pts Go.Proofs.YtplbahdomjeekaaGreat.Seg Go.Proofs.YtplbahdomjeekaaGreat.Gcd Go.Proofs.YtplbahdomjeekaaGreat.Crs Go.Proofs.YtplbahdomjeekaaGreat.Trk
set_option linter.unusedVariables false
set_option linter.unusedSimpArgs false
abbrev put5 (F : World) (n : Nat) (c : C5) : World := ((((F.setCell ⟨n, 0, none⟩ (.int .i64 c.t)).setCell ⟨n, 1, none⟩ (.int .i64 c.l)).setCell ⟨n, 2, none⟩ (.int .i64 c.g)).setCell ⟨n, 3, none⟩ (.int .i64 c.x)).setCell ⟨n, 4, none⟩ (.int .i64 c.y)
end Go.Proofs.YtplbahdomjeekaaGreat.Rwk
namespace Go.Proofs.YtplbahdomjeekaaGreat.Rwk
open Go.ChangeShapes Go.WideShapes Go.ChangeAt Go.RowKit
open Go.Proofs.YtplbahdomjeekaaGreat.Num Go.Proofs.YtplbahdomjeekaaGreat.Kit Go.Proofs.YtplbahdomjeekaaGreat.Pts Go.Proofs.YtplbahdomjeekaaGreat.Seg Go.Proofs.YtplbahdomjeekaaGreat.Gcd Go.Proofs.YtplbahdomjeekaaGreat.Crs Go.Proofs.YtplbahdomjeekaaGreat.Trk
set_option linter.unusedVariables false
set_option linter.unusedSimpArgs false
end Go.Proofs.YtplbahdomjeekaaGreat.Rwk
