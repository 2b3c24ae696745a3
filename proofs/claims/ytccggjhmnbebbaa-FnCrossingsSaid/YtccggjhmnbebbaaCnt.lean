/- CountCrossings of both. -/
import Derived.Test.YtccggjhmnbebbaaItr2
import Derived.Test.YtccggjhmnbebbaaSpc
namespace Go.Proofs.Ytccggjhmnbebbaa.Rwk
open Go.ChangeShapes Go.WideShapes Go.ChangeAt Go.RowKit
open Go.Proofs.Ytccggjhmnbebbaa.Num Go.Proofs.Ytccggjhmnbebbaa.Kit Go.Proofs.Ytccggjhmnbebbaa.Pts Go.Proofs.Ytccggjhmnbebbaa.Seg Go.Proofs.Ytccggjhmnbebbaa.Gcd Go.Proofs.Ytccggjhmnbebbaa.Crs Go.Proofs.Ytccggjhmnbebbaa.Trk
set_option linter.unusedVariables false
set_option linter.unusedSimpArgs false

/-- All crossings of a track and a line that may not be valid, and the first code. -/
def vCr (fs : List F3) (a b c d : Int) : Bool := trB fs && sgB a b c d
def allC (fs : List F3) (a b c d : Int) : List C5 := if vCr fs a b c d = true then crL fs a b c d (fs.length - 1) else []
def codC (fs : List F3) (a b c d : Int) : Int := if vCr fs a b c d = true then 0 else 1
theorem v_no1 {fs : List F3} {a b c d : Int} (h : trB fs = false) : allC fs a b c d = [] ∧ codC fs a b c d = 1 := by
  have e : vCr fs a b c d = false := by unfold vCr; rw [h]; rfl
  exact ⟨if_neg (by rw [e]; decide), if_neg (by rw [e]; decide)⟩
theorem v_no2 {fs : List F3} {a b c d : Int} (h : sgB a b c d = false) : allC fs a b c d = [] ∧ codC fs a b c d = 1 := by
  have e : vCr fs a b c d = false := by unfold vCr; rw [h, Bool.and_false]
  exact ⟨if_neg (by rw [e]; decide), if_neg (by rw [e]; decide)⟩
theorem v_yes {fs : List F3} {a b c d : Int} (h1 : trB fs = true) (h2 : sgB a b c d = true) : allC fs a b c d = crL fs a b c d (fs.length - 1) ∧ codC fs a b c d = 0 := by
  have e : vCr fs a b c d = true := by unfold vCr; rw [h1, h2]; rfl
  exact ⟨if_pos e, if_pos e⟩

theorem lw_cases (fs : List F3) (a b c d : Int) (k : Nat) : lwI fs a b c d k = 0 ∨ lwI fs a b c d k = 1 ∨ lwI fs a b c d k = -1 := by
  unfold lwI wyI
  repeat' split
  all_goals simp
theorem crL_way (fs : List F3) (a b c d : Int) : ∀ k x, x ∈ crL fs a b c d k → x.g = 1 ∨ x.g = -1
  | 0, x, h => by simp [crL] at h
  | k + 1, x, h => by
    by_cases e : lwI fs a b c d k = 0
    · rw [crL_same e] at h; exact crL_way fs a b c d k x h
    · rw [crL_more e] at h
      rcases List.mem_append.1 h with h | h
      · exact crL_way fs a b c d k x h
      · simp at h
        subst h
        exact (lw_cases fs a b c d k).resolve_left e
theorem take_cx (cs : List C5) (k : Nat) (h : k < cs.length) : cs.take (k + 1) = cs.take k ++ [cx cs k] := by
  rw [List.take_succ_eq_append_getElem h]
  unfold cx
  rw [List.getD_eq_getElem?_getD, List.getElem?_eq_getElem h]; rfl
theorem cx_mem (cs : List C5) (k : Nat) (h : k < cs.length) : cx cs k ∈ cs := by
  unfold cx
  rw [List.getD_eq_getElem?_getD, List.getElem?_eq_getElem h]
  exact List.getElem_mem h

set_option maxHeartbeats 1000000 in
theorem count_impl (a0 : Option Addr) (cap : Nat) (fs : List F3) (a b c d : Int) (w : World) (hf : Fxs w a0 fs) :
    Calls Try.prog 13 #[Tr (.slice a0 fs.length cap), Sg a b c d] w fun e w' => e = .returned (.tuple #[.int .i64 (fwN (allC fs a b c d)), .int .i64 (bwN (allC fs a b c d)), .int .i64 (codC fs a b c d)]) ∧ Ext w w' := by
  cases hv : trB fs
  · obtain ⟨e1, e2⟩ := v_no1 (a := a) (b := b) (c := c) (d := d) hv
    rw [e1, e2, show fwN [] = 0 from rfl, show bwN [] = 0 from rfl]
    go_enter Try.func13, Try.ntmps13
    go_wp2_with (go_at_call 22; refine (trackValid_any _ _ _ _ (hf.ext (((Ext.refl w).alloc _).alloc _))).mono ?_; rintro e w1 ⟨rfl, hx⟩; rw [hv])
    refine bodyPost_ret (v := .tuple #[.int .i64 0, .int .i64 0, .int .i64 1]) (by simp [results, Try.f13, go_sem]) rfl ⟨rfl, (((Ext.refl w).alloc _).alloc _).trans hx⟩
  · cases hs : sgB a b c d
    · obtain ⟨e1, e2⟩ := v_no2 (fs := fs) hs
      rw [e1, e2, show fwN [] = 0 from rfl, show bwN [] = 0 from rfl]
      have k1 : ∀ i v, (#[.int .i64 a, .int .i64 b, .int .i64 c, .int .i64 d] : Array Value)[i]? = some v → ((w.alloc (.cells #[.slice a0 fs.length cap] 26)).alloc (.cells #[.int .i64 a, .int .i64 b, .int .i64 c, .int .i64 d] 30)).cell? ⟨w.heap.size + 1, i, none⟩ = some v := fun i v hv => boxed i hv (by simp)
      have l0 := k1 0 _ rfl
      have l1 := k1 1 _ rfl
      have l2 := k1 2 _ rfl
      have l3 := k1 3 _ rfl
      clear k1
      go_enter Try.func13, Try.ntmps13
      go_wp2_with first
        | (go_at_call 22; refine (trackValid_any _ _ _ _ (hf.ext (((Ext.refl w).alloc _).alloc _))).mono ?_; rintro e w1 ⟨rfl, hx⟩; rw [hv]; replace l0 := hx.cellOf l0; replace l1 := hx.cellOf l1; replace l2 := hx.cellOf l2; replace l3 := hx.cellOf l3)
        | (go_at_call 23; refine (lineValid_any _ _ _ _ _).mono ?_; rintro e w2 ⟨rfl, hy⟩; rw [hs])
      refine bodyPost_ret (v := .tuple #[.int .i64 0, .int .i64 0, .int .i64 1]) (by simp [results, Try.f13, go_sem]) rfl ⟨rfl, (((Ext.refl w).alloc _).alloc _).trans (hx.trans hy)⟩
    · obtain ⟨e1, e2⟩ := v_yes (fs := fs) hv hs
      rw [e1, e2]
      exact count_yes a0 cap fs a b c d w hf hv hs

def RelCN (w : World) (cs : List C5) (f i : Value) (wr : World) : Prop := ∃ k : Nat, i = .int .i64 k ∧ f = .int .i64 (fwN (cs.take k)) ∧ k ≤ cs.length ∧ Ext w wr

end Go.Proofs.Ytccggjhmnbebbaa.Rwk
