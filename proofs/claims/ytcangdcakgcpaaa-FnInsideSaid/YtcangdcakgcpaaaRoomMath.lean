/- Facts of FnRoomOrder and FnInside (chapter 11). No program is named here. -/
import Derived.Test.YtcangdcakgcpaaaRmw
import Derived.Test.YtcangdcakgcpaaaRmB
namespace Go.Proofs.Ytcangdcakgcpaaa.Rom
open Go.ChangeShapes Go.WideShapes Go.ChangeAt Go.RowKit
open Go.Proofs.Ytcangdcakgcpaaa.Num Go.Proofs.Ytcangdcakgcpaaa.Kit Go.Proofs.Ytcangdcakgcpaaa.Pts Go.Proofs.Ytcangdcakgcpaaa.Seg Go.Proofs.Ytcangdcakgcpaaa.Wnd Go.Proofs.Ytcangdcakgcpaaa.Hul
open Go.Proofs.Ytcangdcakgcpaaa.RmT (rmB)
set_option linter.unusedVariables false
set_option linter.unusedSimpArgs false

/-- Two givers that fit when the boats are exchanged. -/
def GG (k l : Int) : Prop := (k = 0 ∧ l = 0) ∨ (k = 1 ∧ l = 2) ∨ (k = 2 ∧ l = 1)
theorem ww_gg (a b : Int) : GG (wwN a b) (wwN b a) := by
  unfold GG wwN
  split <;> split <;> omega
theorem ww_self (a : Int) : wwN a a = 0 := by unfold wwN; rw [if_neg (by omega), if_neg (by omega)]
theorem op_comm (i j : Int) : opB j i = opB i j := by
  unfold opB
  have h : (j != i) = (i != j) := by
    by_cases e : i = j
    · subst e; rfl
    · rw [bne_iff_ne.2 e, bne_iff_ne.2 (fun q => e q.symm)]
  rw [h]
  cases (i != 0) <;> cases (j != 0) <;> cases (i != j) <;> rfl
theorem bt_comm (i j e f : Int) : btB j i f e = btB i j e f := by
  unfold btB
  rw [op_comm i j]
  cases (e == 1) <;> cases (f == 1) <;> cases opB i j <;> rfl
theorem rt_comm (x y c d u v : Int) : rbT x y u v c d = rbT x y c d u v := bt_comm _ _ _ _
theorem gv_gg (t p q : Bool) (k l : Int) (h : GG k l) : GG (gvG t (ovN p q) k) (gvG t (ovN q p) l) ∧ gvR t (ovN q p) l = gvR t (ovN p q) k ∧ rmB (gvG t (ovN p q) k) (gvR t (ovN p q) k) = true := by
  unfold GG at *
  rcases h with ⟨rfl, rfl⟩ | ⟨rfl, rfl⟩ | ⟨rfl, rfl⟩ <;> revert t p q <;> decide
theorem ib_comm (X Y a b c d n p q u v m : Int) : ibB X Y p q u v m a b c d n = ibB X Y a b c d n p q u v m := by
  unfold ibB h2B
  rw [Bool.and_comm (hlB p q u v m)]
/-- Exchanged boats. -/
theorem rb_facts (x y X Y a b c d n p q u v m : Int) :
    (rbC x y X Y a b c d n p q u v m = 1 ∧ rbC x y X Y p q u v m a b c d n = 1) ∨ (rbC x y X Y a b c d n p q u v m = 0 ∧ rbC x y X Y p q u v m a b c d n = 0 ∧ rmB (rbG x y X Y a b c d n p q u v m) (rbR x y X Y a b c d n p q u v m) = true ∧
      rbR x y X Y p q u v m a b c d n = rbR x y X Y a b c d n p q u v m ∧ GG (rbG x y X Y a b c d n p q u v m) (rbG x y X Y p q u v m a b c d n)) := by
  have hc : rbB x y X Y p q u v m a b c d n = rbB x y X Y a b c d n p q u v m := by unfold rbB; rw [ib_comm]
  cases hB : rbB x y X Y a b c d n p q u v m
  · exact .inl ⟨if_neg (by simp [hB]), if_neg (by simp [hc, hB])⟩
  · have hB2 := hc.trans hB
    have e1 : rbG x y X Y a b c d n p q u v m = rmG x y X Y a b c d n p q u v m := if_pos hB
    have e2 : rbR x y X Y a b c d n p q u v m = rmR x y X Y a b c d n p q u v m := if_pos hB
    have e3 : rbG x y X Y p q u v m a b c d n = rmG x y X Y p q u v m a b c d n := if_pos hB2
    have e4 : rbR x y X Y p q u v m a b c d n = rmR x y X Y p q u v m a b c d n := if_pos hB2
    obtain ⟨k1, k2, k3⟩ := gv_gg (rbT x y c d u v) (caB a b c d n p q) (caB p q u v m a b) (inN a b p q X Y) (inN p q a b X Y) (ww_gg _ _)
    have r1 : rmG x y X Y p q u v m a b c d n = gvG (rbT x y c d u v) (ovN (caB p q u v m a b) (caB a b c d n p q)) (inN p q a b X Y) := by unfold rmG; rw [rt_comm x y c d u v]
    have r2 : rmR x y X Y p q u v m a b c d n = gvR (rbT x y c d u v) (ovN (caB p q u v m a b) (caB a b c d n p q)) (inN p q a b X Y) := by unfold rmR; rw [rt_comm x y c d u v]
    refine .inr ⟨if_pos hB, if_pos hB2, ?_, ?_, ?_⟩
    · rw [e1, e2]; exact k3
    · rw [e2, e4, r2]; exact k2
    · rw [e1, e3, r1]; exact k1
/-- The inside boat gives no room. -/
theorem gv_inside (t : Bool) (o k : Int) : gvR t o k ≠ 2 ∨ gvG t o k = 3 - k := by
  unfold gvR gvG
  split
  · exact .inl (by decide)
  · split
    · exact .inl (by decide)
    · split
      · exact .inl (by decide)
      · split
        · exact .inl (by decide)
        · split
          · exact .inl (by decide)
          · exact .inr rfl
theorem ib_facts (X Y a b c d n p q u v m : Int) :
    ibC X Y a b c d n p q u v m = 1 ∨ (ibC X Y a b c d n p q u v m = 0 ∧ ibC X Y p q u v m a b c d n = 0 ∧ ibC X Y a b c d n a b c d n = 0 ∧ rbC 3 4 X Y a b c d n p q u v m = 0 ∧ ibV X Y a b c d n a b c d n = 0 ∧
      GG (ibV X Y a b c d n p q u v m) (ibV X Y p q u v m a b c d n) ∧ (rbR 3 4 X Y a b c d n p q u v m ≠ 2 ∨ rbG 3 4 X Y a b c d n p q u v m = 3 - ibV X Y a b c d n p q u v m)) := by
  cases hB : ibB X Y a b c d n p q u v m
  · exact .inl (if_neg (by simp [hB]))
  · have hB2 := (ib_comm X Y a b c d n p q u v m).trans hB
    obtain ⟨h0, h1, h2⟩ := ib_all hB
    have hB3 : ibB X Y a b c d n a b c d n = true := ib_yes h0 h1 h1
    have hB4 : rbB 3 4 X Y a b c d n p q u v m = true := rb_yes (by decide) hB
    have e1 : ibV X Y a b c d n p q u v m = inN a b p q X Y := if_pos hB
    have e2 : ibV X Y p q u v m a b c d n = inN p q a b X Y := if_pos hB2
    have e3 : ibV X Y a b c d n a b c d n = inN a b a b X Y := if_pos hB3
    have e4 : rbG 3 4 X Y a b c d n p q u v m = rmG 3 4 X Y a b c d n p q u v m := if_pos hB4
    have e5 : rbR 3 4 X Y a b c d n p q u v m = rmR 3 4 X Y a b c d n p q u v m := if_pos hB4
    refine .inr ⟨if_pos hB, if_pos hB2, if_pos hB3, if_pos hB4, ?_, ?_, ?_⟩
    · rw [e3]; exact ww_self _
    · rw [e1, e2]; exact ww_gg _ _
    · rw [e1, e4, e5]; exact gv_inside _ _ _

end Go.Proofs.Ytcangdcakgcpaaa.Rom
