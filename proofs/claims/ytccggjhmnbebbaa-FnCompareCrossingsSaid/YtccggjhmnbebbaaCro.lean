/- Rows of crossings that a call made: comparing, marking, looking whether the marks are held (laws); CrossingsOf of both. -/
import Derived.Test.YtccggjhmnbebbaaItr4
import Derived.Test.YtccggjhmnbebbaaFir2
import Derived.PlainAid
namespace Go.Proofs.Ytccggjhmnbebbaa.Rwk
open Go.ChangeShapes Go.WideShapes Go.ChangeAt Go.RowKit Go.PlainAid
open Go.Proofs.Ytccggjhmnbebbaa.Num Go.Proofs.Ytccggjhmnbebbaa.Kit Go.Proofs.Ytccggjhmnbebbaa.Pts Go.Proofs.Ytccggjhmnbebbaa.Seg Go.Proofs.Ytccggjhmnbebbaa.Gcd Go.Proofs.Ytccggjhmnbebbaa.Crs Go.Proofs.Ytccggjhmnbebbaa.Trk
set_option linter.unusedVariables false
set_option linter.unusedSimpArgs false

def RelEC (w : World) (n : Nat) (i : Value) (wr : World) : Prop := ∃ k : Nat, i = .int .i64 k ∧ k ≤ n ∧ Ext w wr

/-- The marks of n crossings from k on. -/
def mkC (k : Int) (i : Nat) : C5 := ⟨k + 5 * i, k + 5 * i + 1, k + 5 * i + 2, k + 5 * i + 3, k + 5 * i + 4⟩
def mkL (k : Int) (n : Nat) : List C5 := (List.range n).map (mkC k)
theorem mkL_len (k : Int) (n : Nat) : (mkL k n).length = n := by simp [mkL]
theorem mkL_succ (k : Int) (n : Nat) : mkL k (n + 1) = mkL k n ++ [mkC k n] := by simp [mkL, List.range_succ]
theorem cx_mkL (k : Int) (n i : Nat) (h : i < n) : cx (mkL k n) i = mkC k i := by
  unfold cx mkL
  rw [List.getD_eq_getElem?_getD, List.getElem?_map, List.getElem?_range h]; rfl
theorem app_set5 (A : List C5) (x : C5) (a b c d e : Value) (R : List Value) :
    ((((((cellsC A ++ a :: b :: c :: d :: e :: R).set (A.length * 5) (.int .i64 x.t)).set (A.length * 5 + 1) (.int .i64 x.l)).set (A.length * 5 + 2) (.int .i64 x.g)).set (A.length * 5 + 3) (.int .i64 x.x)).set (A.length * 5 + 4) (.int .i64 x.y)) = cellsC (A ++ [x]) ++ R := by
  rw [← cellsC_app, ← cellsC_len A]
  simp [List.set_append]
theorem app_get (A : List C5) (a b c d e : Value) (R : List Value) : (cellsC A ++ a :: b :: c :: d :: e :: R)[A.length * 5]? = some a ∧ (cellsC A ++ a :: b :: c :: d :: e :: R)[A.length * 5 + 1]? = some b ∧ (cellsC A ++ a :: b :: c :: d :: e :: R)[A.length * 5 + 2]? = some c ∧ (cellsC A ++ a :: b :: c :: d :: e :: R)[A.length * 5 + 3]? = some d ∧ (cellsC A ++ a :: b :: c :: d :: e :: R)[A.length * 5 + 4]? = some e := by
  rw [← cellsC_len A]
  simp [List.getElem?_append]

def RelMC (w : World) (g n : Nat) (k : Int) (s i : Value) (wr : World) : Prop :=
  ∃ (j : Nat) (R : List Value), i = .int .i64 j ∧ s = .int .i64 (k + 5 * j) ∧ j ≤ n ∧ R.length = (n - j) * 5 ∧ Box wr g (cellsC (mkL k j) ++ R) ∧ Chg g w wr

def RelWC (w : World) (n : Nat) (k : Int) (s i : Value) (wr : World) : Prop := ∃ j : Nat, i = .int .i64 j ∧ s = .int .i64 (k + 5 * j) ∧ j ≤ n ∧ w = wr

def ChgV (v : Value) (base : Nat) (w w' : World) : Prop := Ext w w' ∨ ∃ B, base ≤ B ∧ v.ownBlock = some B ∧ Chg B w w'
theorem ChgV.ext {v : Value} {base : Nat} {W w w' : World} (h : ChgV v base w w') (k : Ext W w) (hW : W.heap.size ≤ base) : Ext W w' := by
  rcases h with h | ⟨B, hB, _, h⟩
  · exact k.trans h
  · exact h.ext k (by omega)
def HeldC (w : World) (v : Value) (k : Int) (n : Nat) : Prop := (v = .slice none 0 0 ∧ n = 0) ∨ ∃ g cap, v = .slice (some ⟨g, 0, none⟩) n cap ∧ Box w g (cellsC (mkL k n))
theorem HeldC.ext {w w' : World} {v : Value} {k : Int} {n : Nat} (h : HeldC w v k n) (x : Ext w w') : HeldC w' v k n := by
  rcases h with h | ⟨g, cap, e, h⟩
  · exact .inl h
  · exact .inr ⟨g, cap, e, h.ext x⟩
theorem OwnC.box {w : World} {base g cap : Nat} {cs : List C5} (h : OwnC w base (.slice (some ⟨g, 0, none⟩) cs.length cap) cs) : Box w g (cellsC cs) := fun i v hv => by
  have hi : i < cs.length * 5 := by rw [← cellsC_len]; exact (List.getElem?_eq_some_iff.1 hv).1
  exact ⟨by rw [World.ownsRow.cellAt h i hi]; exact hv, World.ownsRow.frozenAt h i⟩
end Go.Proofs.Ytccggjhmnbebbaa.Rwk
