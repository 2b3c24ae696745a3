import Derived.Test.YtknelhceaoblhaaGreatRows
import Derived.WalkKit
import Derived.ProofKit
import Derived.OpenShut
import Derived.Lib.Hide
namespace Go.Proofs.YtknelhceaoblhaaGreat.Num
open Go.ChangeShapes Go.WideShapes Go.ChangeAt Go.RowKit
set_option linter.unusedVariables false
theorem ret_int {k : IntKind} {a b : Int} (h : b = a) : Ending.returned (.int k a) = .returned (.int k b) := by rw [h]
theorem ret_bool {a b : Bool} (h : b = a) : Ending.returned (.bool a) = .returned (.bool b) := by rw [h]
theorem ret_int2 {k l : IntKind} {a b c d : Int} (h : b = a) (g : d = c) : Ending.returned (.tuple #[.int k a, .int l c]) = .returned (.tuple #[.int k b, .int l d]) := by rw [h, g]
def inB (n lo hi : Int) : Bool := decide (lo ≤ n ∧ n ≤ hi)
theorem inB_yes {n lo hi : Int} (h1 : lo ≤ n) (h2 : n ≤ hi) : inB n lo hi = true := by unfold inB; exact decide_eq_true ⟨h1, h2⟩
theorem inB_no {n lo hi : Int} (h : ¬ (lo ≤ n ∧ n ≤ hi)) : inB n lo hi = false := by unfold inB; exact decide_eq_false h
theorem of_inB {n lo hi : Int} (h : inB n lo hi = true) : lo ≤ n ∧ n ≤ hi := by unfold inB at h; exact of_decide_eq_true h
theorem in_any (n lo hi : Int) (w : World) : Calls Tryz.prog 65 #[.int .i64 n, .int .i64 lo, .int .i64 hi] w fun e w' => e = .returned (.bool (inB n lo hi)) ∧ w = w' := by
  by_cases h1 : lo ≤ n
  · by_cases h2 : n ≤ hi
    · have H := Lib.hid (inB_yes h1 h2)
      go_enter Tryz.func65, Tryz.ntmps65
      go_wp2
      go_ret
      exact ⟨ret_bool H.out, rfl⟩
    · have H := Lib.hid (inB_no (lo := lo) (fun h => h2 h.2))
      go_enter Tryz.func65, Tryz.ntmps65
      go_wp2
      go_ret
      exact ⟨ret_bool H.out, rfl⟩
  · have H := Lib.hid (inB_no (hi := hi) (fun h => h1 h.1))
    go_enter Tryz.func65, Tryz.ntmps65
    go_wp2
    go_ret
    exact ⟨ret_bool H.out, rfl⟩
def flo (a b : Int) : Int := if a.tmod b < 0 then a.tdiv b - 1 else a.tdiv b
theorem tdiv_bd {a b : Int} (hb : 1 ≤ b) (M : Int) (h1 : -M ≤ a) (h2 : a ≤ M) : -M ≤ a.tdiv b ∧ a.tdiv b ≤ M := by
  have h : (a.tdiv b).natAbs = a.natAbs / b.natAbs := Int.natAbs_tdiv a b
  have h3 : a.natAbs / b.natAbs ≤ a.natAbs := Nat.div_le_self _ _
  rw [← h] at h3
  omega
theorem floor_any (a b : Int) (w : World) (hb : 1 ≤ b) (h1 : -4000000000000000000 ≤ a) (h2 : a ≤ 4000000000000000000) : Calls Tryz.prog 133 #[.int .i64 a, .int .i64 b] w fun e w' => e = .returned (.int .i64 (flo a b)) ∧ w = w' := by
  obtain ⟨g1, g2⟩ := tdiv_bd hb 4000000000000000000 h1 h2
  by_cases hm : a.tmod b < 0
  · have H := Lib.hid (show flo a b = a.tdiv b - 1 from if_pos hm)
    go_enter Tryz.func133, Tryz.ntmps133
    go_wp2
    go_ret
    exact ⟨ret_int H.out, rfl⟩
  · have H := Lib.hid (show flo a b = a.tdiv b from if_neg hm)
    go_enter Tryz.func133, Tryz.ntmps133
    go_wp2
    go_ret
    exact ⟨ret_int H.out, rfl⟩
def fdQ (a b : Int) : Int := if 1 ≤ b ∧ b ≤ 1000000000000000000 ∧ -1000000000000000000 ≤ a ∧ a ≤ 1000000000000000000 then flo a b else 0
def fdC (a b : Int) : Int := if 1 ≤ b ∧ b ≤ 1000000000000000000 ∧ -1000000000000000000 ≤ a ∧ a ≤ 1000000000000000000 then 0 else 2
theorem floorDiv_impl (a b : Int) (w : World) : Calls Tryz.prog 199 #[.int .i64 a, .int .i64 b] w fun e w' => e = .returned (.tuple #[.int .i64 (fdQ a b), .int .i64 (fdC a b)]) ∧ w = w' := by
  by_cases h : 1 ≤ b ∧ b ≤ 1000000000000000000 ∧ -1000000000000000000 ≤ a ∧ a ≤ 1000000000000000000
  · have HC := Lib.hid (show fdC a b = 0 from if_pos h)
    have HQ0 := Lib.hid (show fdQ a b = flo a b from if_pos h)
    obtain ⟨h1, h2, h3, h4⟩ := h
    obtain ⟨g1, g2⟩ := tdiv_bd h1 1000000000000000000 h3 h4
    by_cases hm : a.tmod b < 0
    · have HQ := Lib.hid (HQ0.out.trans (show flo a b = a.tdiv b - 1 from if_pos hm))
      go_enter Tryz.func199, Tryz.ntmps199
      go_wp2
      go_ret2
      exact ⟨ret_int2 HQ.out HC.out, rfl⟩
    · have HQ := Lib.hid (HQ0.out.trans (show flo a b = a.tdiv b from if_neg hm))
      go_enter Tryz.func199, Tryz.ntmps199
      go_wp2
      go_ret2
      exact ⟨ret_int2 HQ.out HC.out, rfl⟩
  · have HC := Lib.hid (show fdC a b = 2 from if_neg h)
    have HQ := Lib.hid (show fdQ a b = 0 from if_neg h)
    by_cases h1 : b < 1
    · go_enter Tryz.func199, Tryz.ntmps199
      go_wp2
      go_ret2
      exact ⟨ret_int2 HQ.out HC.out, rfl⟩
    by_cases h2 : 1000000000000000000 < b
    · go_enter Tryz.func199, Tryz.ntmps199
      go_wp2
      go_ret2
      exact ⟨ret_int2 HQ.out HC.out, rfl⟩
    by_cases h3 : a < -1000000000000000000
    · go_enter Tryz.func199, Tryz.ntmps199
      go_wp2
      go_ret2
      exact ⟨ret_int2 HQ.out HC.out, rfl⟩
    have h4 : 1000000000000000000 < a := by omega
    clear h
    go_enter Tryz.func199, Tryz.ntmps199
    go_wp2
    go_ret2
    exact ⟨ret_int2 HQ.out HC.out, rfl⟩
end Go.Proofs.YtknelhceaoblhaaGreat.Num
namespace Go.Proofs.YtknelhceaoblhaaGreat.Iw
open Go.Proofs.YtknelhceaoblhaaGreat.Num
set_option linter.unusedVariables false
set_option linter.unusedSimpArgs false
def ckZ (z p : Int) (n : Nat) : List Int := (List.range n).map fun k : Nat => z + (k : Int) * p
theorem ck_len (z p : Int) (n : Nat) : (ckZ z p n).length = n := by simp [ckZ]
theorem ck_snoc (z p : Int) (n : Nat) : ckZ z p (n + 1) = ckZ z p n ++ [z + (n : Int) * p] := by simp [ckZ, List.range_succ]
theorem ck_next (z p : Int) (k : Nat) : z + (k : Int) * p + p = z + ((k + 1 : Nat) : Int) * p := by
  rw [Int.natCast_add, Int.add_mul]; omega
def ckN (z p e : Int) : Nat := ((e - z + p) / p).toNat
theorem ck_lt {z p e : Int} (hp : 0 < p) (k : Nat) : k < ckN z p e ↔ z + (k : Int) * p ≤ e := by
  unfold ckN
  have h : k < ((e - z + p) / p).toNat ↔ (k : Int) + 1 ≤ (e - z + p) / p := by omega
  rw [h, Int.le_ediv_iff_mul_le hp, Int.add_mul]
  omega
theorem ck_end {z p e : Int} (hp : 0 < p) {k : Nat} (h1 : k ≤ ckN z p e) (h2 : ¬ z + (k : Int) * p ≤ e) : ckN z p e = k := by
  have : ¬ k < ckN z p e := fun h => h2 ((ck_lt (e := e) (z := z) hp k).1 h)
  omega
def ckF (f p : Int) : Int := (f + p - 1).tdiv p * p
theorem ckF_eq {f p : Int} (hf : 0 ≤ f) (hp : 1 ≤ p) : ckF f p = (f + p - 1) / p * p := by
  unfold ckF; rw [Int.tdiv_eq_ediv_of_nonneg (by omega)]
theorem ckF_bd {f p : Int} (hf : 0 ≤ f) (hp : 1 ≤ p) : f ≤ ckF f p ∧ ckF f p < f + p := by
  rw [ckF_eq hf hp]
  have h1 := Int.mul_ediv_add_emod (f + p - 1) p
  have h2 := Int.emod_nonneg (f + p - 1) (show p ≠ 0 by omega)
  have h3 := Int.emod_lt_of_pos (f + p - 1) (show 0 < p by omega)
  rw [Int.mul_comm] at h1
  omega
theorem ckQ_bd {f p : Int} (hf : 0 ≤ f) (hp : 1 ≤ p) : 0 ≤ (f + p - 1).tdiv p ∧ (f + p - 1).tdiv p ≤ f + p := by
  rw [Int.tdiv_eq_ediv_of_nonneg (by omega)]
  have h1 := Int.mul_ediv_add_emod (f + p - 1) p
  have h2 := Int.emod_nonneg (f + p - 1) (show p ≠ 0 by omega)
  have h4 : 0 ≤ (f + p - 1) / p := Int.ediv_nonneg (by omega) (by omega)
  refine ⟨h4, ?_⟩
  have h5 : 1 * ((f + p - 1) / p) ≤ p * ((f + p - 1) / p) := Int.mul_le_mul_of_nonneg_right hp h4
  omega
end Go.Proofs.YtknelhceaoblhaaGreat.Iw
