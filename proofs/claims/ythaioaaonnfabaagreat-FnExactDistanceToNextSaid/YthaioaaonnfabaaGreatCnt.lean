/- CountCrossings of both. -/
import Derived.Test.YthaioaaonnfabaaGreatItr2
import Derived.Test.YthaioaaonnfabaaGreatSpc
namespace Go.Proofs.YthaioaaonnfabaaGreat.Rwk
open Go.ChangeShapes Go.WideShapes Go.ChangeAt Go.RowKit
open Go.Proofs.YthaioaaonnfabaaGreat.Num Go.Proofs.YthaioaaonnfabaaGreat.Kit Go.Proofs.YthaioaaonnfabaaGreat.Pts Go.Proofs.YthaioaaonnfabaaGreat.Seg Go.Proofs.YthaioaaonnfabaaGreat.Gcd Go.Proofs.YthaioaaonnfabaaGreat.Crs Go.Proofs.YthaioaaonnfabaaGreat.Trk
set_option linter.unusedVariables false
set_option linter.unusedSimpArgs false

/-- All crossings of a track and a line that may not be valid, and the first code. -/
def vCr (fs : List F3) (a b c d : Int) : Bool := trB fs && sgB a b c d
def allC (fs : List F3) (a b c d : Int) : List C5 := if vCr fs a b c d = true then crL fs a b c d (fs.length - 1) else []
def codC (fs : List F3) (a b c d : Int) : Int := if vCr fs a b c d = true then 0 else 1
theorem v_no1 {fs : List F3} {a b c d : Int} (h : trB fs = false) : allC fs a b c d = [] ∧ codC fs a b c d = 1 := by
  have e : vCr fs a b c d = false := by unfold vCr; rw [h]; rfl
  exact ⟨if_neg (by rw [e]; decide), if_neg (by rw [e]; decide)⟩
theorem v_no2 {fs : List F3} {a b c d : Int} (h : sgB a b c d = false) : allC fs a b c d = [] ∧ codC fs a b c d = 1 := by
  have e : vCr fs a b c d = false := by unfold vCr; rw [h, Bool.and_false]
  exact ⟨if_neg (by rw [e]; decide), if_neg (by rw [e]; decide)⟩
theorem v_yes {fs : List F3} {a b c d : Int} (h1 : trB fs = true) (h2 : sgB a b c d = true) : allC fs a b c d = crL fs a b c d (fs.length - 1) ∧ codC fs a b c d = 0 := by
  have e : vCr fs a b c d = true := by unfold vCr; rw [h1, h2]; rfl
  exact ⟨if_pos e, if_pos e⟩

theorem lw_cases (fs : List F3) (a b c d : Int) (k : Nat) : lwI fs a b c d k = 0 ∨ lwI fs a b c d k = 1 ∨ lwI fs a b c d k = -1 := by
  unfold lwI wyI
  repeat' split
  all_goals simp
theorem crL_way (fs : List F3) (a b c d : Int) : ∀ k x, x ∈ crL fs a b c d k → x.g = 1 ∨ x.g = -1
  | 0, x, h => by simp [crL] at h
  | k + 1, x, h => by
    by_cases e : lwI fs a b c d k = 0
    · rw [crL_same e] at h; exact crL_way fs a b c d k x h
    · rw [crL_more e] at h
      rcases List.mem_append.1 h with h | h
      · exact crL_way fs a b c d k x h
      · simp at h
        subst h
        exact (lw_cases fs a b c d k).resolve_left e
theorem take_cx (cs : List C5) (k : Nat) (h : k < cs.length) : cs.take (k + 1) = cs.take k ++ [cx cs k] := by
  rw [List.take_succ_eq_append_getElem h]
  unfold cx
  rw [List.getD_eq_getElem?_getD, List.getElem?_eq_getElem h]; rfl
theorem cx_mem (cs : List C5) (k : Nat) (h : k < cs.length) : cx cs k ∈ cs := by
  unfold cx
  rw [List.getD_eq_getElem?_getD, List.getElem?_eq_getElem h]
  exact List.getElem_mem h

def RelCN (w : World) (cs : List C5) (f i : Value) (wr : World) : Prop := ∃ k : Nat, i = .int .i64 k ∧ f = .int .i64 (fwN (cs.take k)) ∧ k ≤ cs.length ∧ Ext w wr

end Go.Proofs.YthaioaaonnfabaaGreat.Rwk
