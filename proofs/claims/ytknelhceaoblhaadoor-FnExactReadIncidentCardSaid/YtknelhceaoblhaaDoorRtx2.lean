/- Reading the text of a ruling (chapter 10), both. -/
import Derived.Test.YtknelhceaoblhaaDoorRtx
import Derived.Test.YtknelhceaoblhaaDoorCrp
import Derived.Test.YtknelhceaoblhaaDoorCel
import Derived.Deep.DeepCutAuto
namespace Go.Proofs.YtknelhceaoblhaaDoor.Rtx
open Go.ChangeShapes Go.WideShapes Go.ChangeAt Go.RowKit
open Go.Proofs.YtknelhceaoblhaaDoor.Num Go.Proofs.YtknelhceaoblhaaDoor.Kit Go.Proofs.YtknelhceaoblhaaDoor.Txt Go.Proofs.YtknelhceaoblhaaDoor.TxtMath Go.Proofs.YtknelhceaoblhaaDoor.RulT Go.Proofs.YtknelhceaoblhaaDoor.Crs
set_option linter.unusedVariables false
set_option linter.unusedSimpArgs false

def ws6 : List (List UInt8) := [[], wTurning, wPortR, wAstern, wWindward, wUnclear]
def wsx (j : Nat) : List UInt8 := ws6.getD j []
theorem ix_hit {l : List UInt8} {j : Nat} (hj : j < 6) (hd : ∀ i, i < j → wsx i ≠ l) (h : wsx j = l) : ixN l = j := by
  subst h
  rcases (show j = 0 ∨ j = 1 ∨ j = 2 ∨ j = 3 ∨ j = 4 ∨ j = 5 by omega) with rfl | rfl | rfl | rfl | rfl | rfl <;> decide
theorem ix_miss {l : List UInt8} (hd : ∀ i, i < 6 → wsx i ≠ l) : ixN l = -1 := by
  unfold ixN
  rw [if_neg (fun e => hd 0 (by omega) (by rw [e]; rfl)), if_neg (fun e => hd 1 (by omega) (by rw [e]; rfl)), if_neg (fun e => hd 2 (by omega) (by rw [e]; rfl)), if_neg (fun e => hd 3 (by omega) (by rw [e]; rfl)), if_neg (fun e => hd 4 (by omega) (by rw [e]; rfl)), if_neg (fun e => hd 5 (by omega) (by rw [e]; rfl))]
def RelWx (w : World) (l : List UInt8) (i : Value) (wr : World) : Prop := ∃ j : Nat, i = .int .i64 j ∧ j ≤ 6 ∧ (∀ k, k < j → wsx k ≠ l) ∧ Ext w wr

set_option maxHeartbeats 1000000 in
theorem index6_any (g : Nat) (l : List UInt8) (w : World) (hc : ∀ j, j < 6 → w.cell? ⟨g, j, none⟩ = some (St (wsx j))) :
    Calls Tryd.prog 51 #[.slice (some ⟨g, 0, none⟩) 6 6, St l] w fun e w' => e = .returned (.int .i64 (ixN l)) ∧ Ext w w' := by
  have HC := Lib.hid hc
  clear hc
  go_enter Tryd.func51, Tryd.ntmps51
  go_wp2
  go_loopw [8] (fun i wr => RelWx w l i wr) (fun i _ => 6 - (intOf i).toNat)
  case atStart => exact ⟨0, rfl, by omega, fun k hk => absurd hk (by omega), Ext.refl _⟩
  case round =>
    obtain ⟨j, rfl, hj, hd, hx⟩ := hrel
    have HD := Lib.hid hd
    have HX := Lib.hid hx
    clear hd hx
    by_cases hj1 : j < 6
    · have c0 := HX.out.cellOf (HC.out j hj1)
      have i0 : (0 : Int) ≤ (j : Int) := by omega
      have i1 : (j : Int) < 6 := by omega
      have T7 : IntKind.i64.wrap ((j : Int) + 1) = (j : Int) + 1 := IntWalk.i64_in _ (by omega)
      by_cases h : wsx j = l
      · have H := Lib.hid (ix_hit hj1 HD.out h)
        rw [h] at c0
        clear h
        go_wp2
        go_ret
        exact ⟨ret_int H.out, HX.out⟩
      · have hne : (l == wsx j) = false := beq_eq_false_iff_ne.2 (fun e => h e.symm)
        have H := Lib.hid h
        clear h
        obtain ⟨X, hX⟩ : ∃ X, X = wsx j := ⟨_, rfl⟩
        rw [← hX] at c0 hne
        clear hX
        go_wp2
        go_roundw
        case rel => exact ⟨j + 1, by go_num, by omega, fun k hk => by rcases Nat.lt_or_ge k j with g | g; exact HD.out k g; exact (show k = j by omega) ▸ H.out, HX.out⟩
        case measure => simp [intOf]; omega
    · obtain rfl : j = 6 := by omega
      have H := Lib.hid (ix_miss HD.out)
      go_wp2
      go_ret
      exact ⟨ret_int H.out, HX.out⟩

theorem reasonNamed_any (l : List UInt8) (w : World) : Calls Tryd.prog 40 #[St l] w fun e w' => e = .returned (.int .i64 (ixN l)) ∧ Ext w w' := by
  go_enter Tryd.func40, Tryd.ntmps40
  go_wp2_with fail
  refine (words_impl _).mono ?_
  rintro e w1 ⟨rfl, hx⟩
  have K := Lib.hid (index6_any w1.heap.size l (w1.alloc (.cells #[St [], St wTurning, St wPortR, St wAstern, St wWindward, St wUnclear] 42)) (fun j hj => by
    refine boxed j ?_ rfl
    rcases (show j = 0 ∨ j = 1 ∨ j = 2 ∨ j = 3 ∨ j = 4 ∨ j = 5 by omega) with rfl | rfl | rfl | rfl | rfl | rfl <;> rfl))
  go_wp2_with fail
  refine K.out.mono ?_
  rintro e w2 ⟨rfl, hy⟩
  go_wp2
  go_ret
  exact ⟨rfl, (hx.alloc _).trans hy⟩

/-- No pair ahead of this one has the text. -/
def NoP (l : List UInt8) (k r : Int) : Prop := ∀ p ∈ prs, (p.1 < k ∨ p.1 = k ∧ p.2 < r) → rtL p.1 p.2 ≠ l
theorem np_zero (l : List UInt8) : NoP l 0 1 := fun p hp h => by
  have : ∀ p ∈ prs, 0 ≤ p.1 ∧ 1 ≤ p.2 := by decide
  have := this p hp
  omega
theorem np_row {l : List UInt8} {k : Int} (h : NoP l k 6) : NoP l (k + 1) 1 := fun p hp g => by
  have : ∀ p ∈ prs, 0 ≤ p.1 ∧ 1 ≤ p.2 ∧ p.2 ≤ 5 := by decide
  have := this p hp
  exact h p hp (by omega)
theorem np_step {l : List UInt8} {k r : Int} (h : NoP l k r) (hne : rtT k r ≠ l) (hl : l ≠ []) : NoP l k (r + 1) := fun p hp g => by
  by_cases e : p.1 = k ∧ p.2 = r
  · obtain ⟨rfl, rfl⟩ := e
    unfold rtT at hne
    rw [if_pos (rv_prs p hp)] at hne
    exact hne
  · exact h p hp (by omega)
theorem np_all {l : List UInt8} (h : NoP l 3 1) : rdF l = none := rd_none fun p hp => h p hp (by
  have : ∀ p ∈ prs, p.1 ≤ 2 := by decide
  have := this p hp
  omega)
theorem np_nil {l : List UInt8} (h : l = []) : rdF l = none := rd_none fun p hp => by rw [h]; unfold rtL; simp
theorem np_hit {l : List UInt8} {k r : Int} (h : rtT k r = l) (hl : l ≠ []) : rdF l = some (k, r) := by
  cases hv : rvB k r
  · rw [rt_no hv] at h; exact absurd h.symm hl
  · exact rd_some hv h
def RelKo (W0 : World) (l : List UInt8) (i : Value) (wr : World) : Prop := ∃ k : Nat, i = .int .i64 k ∧ k ≤ 3 ∧ (l ≠ [] → NoP l k 1) ∧ Ext W0 wr
def RelKi (W0 : World) (l : List UInt8) (k : Nat) (i : Value) (wr : World) : Prop := ∃ r : Nat, i = .int .i64 r ∧ 1 ≤ r ∧ r ≤ 6 ∧ (l ≠ [] → NoP l k r) ∧ Ext W0 wr

end Go.Proofs.YtknelhceaoblhaaDoor.Rtx
