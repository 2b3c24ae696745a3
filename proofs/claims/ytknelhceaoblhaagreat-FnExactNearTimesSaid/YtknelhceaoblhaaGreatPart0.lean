import Derived.Test.YtknelhceaoblhaaGreatDiv
import Derived.Test.YtknelhceaoblhaaGreatOrd
import Derived.Test.YtknelhceaoblhaaGreatRes
import Derived.Test.YtknelhceaoblhaaGreatRat
import Derived.Test.YtknelhceaoblhaaGreatMPts
namespace Go.Proofs.YtknelhceaoblhaaGreat.Div
open Go.ChangeShapes Go.WideShapes Go.ChangeAt Go.RowKit
open Go.Proofs.YtknelhceaoblhaaGreat.Num Go.Proofs.YtknelhceaoblhaaGreat.Kit Go.Proofs.YtknelhceaoblhaaGreat.Pts Go.Proofs.YtknelhceaoblhaaGreat.Cmp Go.Proofs.YtknelhceaoblhaaGreat.Gcd
set_option linter.unusedVariables false
set_option linter.unusedSimpArgs false
theorem ab_bd' {n : Int} (h1 : -2000000 ≤ n) (h2 : n ≤ 2000000) : 0 ≤ ab n ∧ ab n ≤ 2000000 := by
  unfold ab; by_cases h : n < 0
  · rw [if_pos h]; omega
  · rw [if_neg h]; omega
theorem flo_ediv {a b : Int} (hb : 1 ≤ b) : flo a b = a / b := by
  obtain ⟨h1, h2⟩ := flo_bd (a := a) hb
  have e := Int.mul_ediv_add_emod a b
  have m1 := Int.emod_nonneg a (show b ≠ 0 by omega)
  have m2 := Int.emod_lt_of_pos a (show 0 < b by omega)
  have k1 : flo a b < a / b + 1 := by
    refine Int.lt_of_mul_lt_mul_right (a := b) ?_ (by omega)
    rw [Int.add_mul, Int.one_mul, Int.mul_comm (a / b) b]; omega
  have k2 : a / b < flo a b + 1 := by
    refine Int.lt_of_mul_lt_mul_right (a := b) ?_ (by omega)
    rw [Int.add_mul, Int.one_mul, Int.mul_comm (a / b) b]; omega
  omega
def pa (num den n : Int) : Int := n * num / den
theorem neg_div (P y : Nat) (hy : 1 ≤ y) : (-(P : Int)) / (y : Int) = if P % y = 0 then -((P / y : Nat) : Int) else -((P / y : Nat) : Int) - 1 := by
  have e := Nat.div_add_mod P y
  have m := Nat.mod_lt P (show 0 < y by omega)
  have pe : ((y * (P / y) : Nat) : Int) = (y : Int) * ((P / y : Nat) : Int) := Int.natCast_mul _ _
  by_cases h : P % y = 0
  · rw [if_pos h]
    rw [show -(P : Int) = -((P / y : Nat) : Int) * (y : Int) by rw [Int.neg_mul, Int.mul_comm, ← pe]; omega]
    exact Int.mul_ediv_cancel _ (by omega)
  · rw [if_neg h]
    rw [show -(P : Int) = ((y : Int) - ((P % y : Nat) : Int)) + (-((P / y : Nat) : Int) - 1) * (y : Int) by rw [Int.sub_mul, Int.neg_mul, Int.mul_comm, ← pe]; omega]
    rw [Int.add_mul_ediv_right _ _ (by omega), Int.ediv_eq_zero_of_lt (by omega) (by omega)]
    omega
theorem div64_any (hi lo y : Nat) (w : World) (h2 : hi < y) (y2 : y ≤ 100000000000000) (l2 : lo < 18446744073709551616) :
    Calls Tryz.prog 216 #[.int .u64 hi, .int .u64 lo, .int .u64 y] w fun e w' => e = .returned (.tuple #[.int .u64 (((hi * 18446744073709551616 + lo) / y : Nat) : Int), .int .u64 (((hi * 18446744073709551616 + lo) % y : Nat) : Int)]) ∧ Ext w w' := by
  rcases Nat.eq_zero_or_pos hi with h | h
  · subst h
    rw [Nat.zero_mul, Nat.zero_add]
    exact div64_zero lo y w (by omega) y2 l2
  · exact div64_some hi lo y w h h2 y2 l2
theorem div64_prod (P y : Nat) (w : World) (h2 : P / 18446744073709551616 < y) (y2 : y ≤ 100000000000000) :
    Calls Tryz.prog 216 #[.int .u64 ((P / 18446744073709551616 : Nat) : Int), .int .u64 ((P % 18446744073709551616 : Nat) : Int), .int .u64 y] w fun e w' => e = .returned (.tuple #[.int .u64 ((P / y : Nat) : Int), .int .u64 ((P % y : Nat) : Int)]) ∧ Ext w w' := by
  have h := div64_any (P / 18446744073709551616) (P % 18446744073709551616) y w h2 y2 (Nat.mod_lt _ (by omega))
  rw [show P / 18446744073709551616 * 18446744073709551616 + P % 18446744073709551616 = P by omega] at h
  exact h
set_option maxHeartbeats 1000000 in
theorem wholeAndRest_any (x y A : Nat) (w : World) (k2 : x ≤ y) (d1 : 1 ≤ y) (d2 : y ≤ 100000000000000) (A2 : A ≤ 1000000000) :
    Calls Tryz.prog 198 #[Pt x y, .int .i64 A] w fun e w' => e = .returned (.tuple #[.int .i64 ((A * x / y : Nat) : Int), .int .i64 ((A * x % y : Nat) : Int)]) ∧ Ext w w' := by
  have P2 : A * x ≤ 1000000000 * y := Nat.mul_le_mul A2 (by omega)
  have hhi : A * x / 18446744073709551616 < y := by omega
  have hq : A * x / y ≤ 1000000000 := by
    rw [← Nat.lt_succ_iff, Nat.div_lt_iff_lt_mul (by omega)]; omega
  have hr : A * x % y < y := Nat.mod_lt _ (by omega)
  have eP : ((A * x : Nat) : Int) = (A : Int) * (x : Int) := Int.natCast_mul A x
  have HD := fun w' => div64_prod (A * x) y w' hhi d2
  generalize A * x / y = Q at *
  generalize A * x % y = R at *
  replace HD := Lib.hid HD
  have W1 : IntKind.u64.wrap (A : Int) = (A : Int) := by rw [IntKind.wrap_u64]; omega
  have W2 : IntKind.u64.wrap (x : Int) = (x : Int) := by rw [IntKind.wrap_u64]; omega
  have W3 : IntKind.u64.wrap (y : Int) = (y : Int) := by rw [IntKind.wrap_u64]; omega
  generalize hW : w.alloc (.cells #[.int .i64 (x : Int), .int .i64 (y : Int)] 175) = W
  have ec0 : W.cell? ⟨w.heap.size, 0, none⟩ = some (.int .i64 (x : Int)) := hW ▸ boxed 0 rfl rfl
  have ec1 : W.cell? ⟨w.heap.size, 1, none⟩ = some (.int .i64 (y : Int)) := hW ▸ boxed 1 rfl rfl
  have hX : Ext w W := hW ▸ (Ext.refl w).alloc _
  clear P2 hhi eP
  go_enter Tryz.func198, Tryz.ntmps198
  go_wp2_with fail
  refine (Tryz.bits_Mul64 A x (by omega) (by omega) _).mono ?_
  rintro e w2 ⟨rfl, rfl⟩
  go_wp2_with fail
  refine (HD.out _).mono ?_
  rintro e w1 ⟨rfl, hy⟩
  go_wp2
  go_ret2
  exact ⟨ret_int2 rfl rfl, hX.trans hy⟩
set_option maxHeartbeats 1000000 in
theorem partOf_any (num den n : Int) (w : World) (k1 : 0 ≤ num) (k2 : num ≤ den) (d1 : 1 ≤ den) (d2 : den ≤ 100000000000000) (n1 : -2000000 ≤ n) (n2 : n ≤ 2000000) :
    Calls Tryz.prog 181 #[Pt num den, .int .i64 n] w fun e w' => e = .returned (.int .i64 (pa num den n)) ∧ Ext w w' := by
  obtain ⟨x, rfl⟩ := Int.eq_ofNat_of_zero_le k1
  obtain ⟨y, rfl⟩ := Int.eq_ofNat_of_zero_le (show 0 ≤ den by omega)
  obtain ⟨A, hA⟩ : ∃ A : Nat, ab n = (A : Int) := ⟨(ab n).toNat, by have := (ab_bd' n1 n2).1; omega⟩
  have A2 : A ≤ 2000000 := by have := (ab_bd' n1 n2).2; omega
  have P2 : A * x ≤ 2000000 * y := Nat.mul_le_mul A2 (by omega)
  have hq : A * x / y ≤ 2000000 := by
    rw [← Nat.lt_succ_iff, Nat.div_lt_iff_lt_mul (by omega)]; omega
  have hr : A * x % y < y := Nat.mod_lt _ (by omega)
  have eP : ((A * x : Nat) : Int) = (A : Int) * (x : Int) := Int.natCast_mul A x
  have HP : pa x y n = if n < 0 then (if A * x % y = 0 then -((A * x / y : Nat) : Int) else -((A * x / y : Nat) : Int) - 1) else ((A * x / y : Nat) : Int) := by
    unfold pa
    by_cases h : n < 0
    · rw [if_pos h, ← neg_div (A * x) y (by omega), eP, ← hA, show ab n = -n from if_pos h, Int.neg_mul, Int.neg_neg]
    · rw [if_neg h, Int.natCast_ediv, eP, ← hA, show ab n = n from if_neg h]
  replace HP := Lib.hid HP
  have hAbs : ∀ w', Calls Tryz.prog 187 #[.int .i64 n] w' fun e w'' => e = .returned (.int .i64 (A : Int)) ∧ w' = w'' := fun w' => by rw [← hA]; exact absolute_any n w' (by omega) (by omega)
  replace hAbs := Lib.hid hAbs
  have hWR := fun w' => wholeAndRest_any x y A w' (by omega) (by omega) (by omega) (by omega)
  clear eP hA P2
  generalize A * x / y = Q at *
  generalize A * x % y = R at *
  replace hWR := Lib.hid hWR
  go_enter Tryz.func181, Tryz.ntmps181
  go_wp2_with fail
  generalize hW : w.alloc (.cells #[.int .i64 (x : Int), .int .i64 (y : Int)] 175) = W
  have hX : Ext w W := hW ▸ (Ext.refl w).alloc _
  have ec0 : ∀ w', Ext W w' → w'.cell? ⟨w.heap.size, 0, none⟩ = some (.int .i64 (x : Int)) := fun w' h => h.cellOf (hW ▸ boxed 0 rfl rfl)
  have ec1 : ∀ w', Ext W w' → w'.cell? ⟨w.heap.size, 1, none⟩ = some (.int .i64 (y : Int)) := fun w' h => h.cellOf (hW ▸ boxed 1 rfl rfl)
  refine wp_region_held_drew (S := (fun w' => Ext W w')) (by kernel_rfl) (by (try dsimp only); first | go_keep | exact (Ext.refl _).drew | exact Res.new2.drew | exact Res.new4.drew | exact ResB.drew (by assumption) | exact ResC.drew (by assumption) | assumption | exact Ext.drew (by assumption) | exact Res.drew (by assumption)) (fun hHeld => ?_)
  refine Ord.K 0 8 ?_
  refine Ord.K 1 9 ?_
  (refine wpAnyH_ready (rs := [2]) (by kernel_rfl) (by simp) ?_; refine AllReadyH.cons rfl (fun K hK => ?_) AllReadyH.nil; go_simp; (first | (go_at_call 198; refine (hWR.out _).mono ?_; rintro e w2 ⟨rfl, hy⟩) | (go_at_call 187; refine (hAbs.out _).mono ?_; rintro e w1 ⟨rfl, rfl⟩)); go_wp2_with fail; (refine hK.out _ _ (by first | assumption | exact Ext.trans (by assumption) hy | exact Res.ext (by assumption) hy | exact ResB.ext (by assumption) hy | exact ResC.ext (by assumption) hy | (go_split_ands; (repeat' apply And.intro) <;> exact Ext.cellOf hy (by assumption))) (fun hHeld => ?_)); clear hK K; (try simp only [Act.put, Ord.a, Ord.b, Ord.c]))
  (refine wpAnyH_ready (rs := [3]) (by kernel_rfl) (by simp) ?_; refine AllReadyH.cons rfl (fun K hK => ?_) AllReadyH.nil; go_simp; (first | (go_at_call 198; refine (hWR.out _).mono ?_; rintro e w2 ⟨rfl, hy⟩) | (go_at_call 187; refine (hAbs.out _).mono ?_; rintro e w1 ⟨rfl, rfl⟩)); go_wp2_with fail; (refine hK.out _ _ (by first | assumption | exact Ext.trans (by assumption) hy | exact Res.ext (by assumption) hy | exact ResB.ext (by assumption) hy | exact ResC.ext (by assumption) hy | (go_split_ands; (repeat' apply And.intro) <;> exact Ext.cellOf hy (by assumption))) (fun hHeld => ?_)); clear hK K; (try simp only [Act.put, Ord.a, Ord.b, Ord.c]))
  refine Ord.K 4 7 ?_
  refine Ord.K 5 12 ?_
  refine Ord.K 6 13 ?_
  refine Ord.K 7 5 ?_
  refine Ord.K 8 6 ?_
  refine wpAnyH_done (by kernel_rfl) ?_ _
  by_cases h : n < 0
  · rw [if_pos h] at HP
    by_cases g : R = 0
    · rw [if_pos g] at HP
      have g1 : ¬ (0 : Int) < (R : Int) := by omega
      clear g
      go_wp2
      go_ret
      exact ⟨ret_int HP.out, hX.trans hHeld⟩
    · rw [if_neg g] at HP
      have g1 : (0 : Int) < (R : Int) := by omega
      clear g
      go_wp2
      go_ret
      exact ⟨ret_int (by rw [HP.out]; omega), hX.trans hHeld⟩
  · rw [if_neg h] at HP
    go_wp2
    go_ret
    exact ⟨ret_int HP.out, hX.trans hHeld⟩
theorem at_eq (h l x y q : Int) (hy : 1 ≤ y) : 1000 * q + (1000 * (h * x - q * y) + l * x) / y = (1000 * h + l) * x / y := by
  rw [show (1000 * h + l) * x = (1000 * (h * x - q * y) + l * x) + 1000 * q * y by grind, Int.add_mul_ediv_right _ _ (by omega)]
  omega
theorem fq_bd {h x y : Int} (hh : -2001 ≤ h ∧ h ≤ 2001) (k1 : 0 ≤ x) (k2 : x ≤ y) (d1 : 1 ≤ y) : -2003 ≤ flo (h * x) y ∧ flo (h * x) y ≤ 2001 := by
  obtain ⟨r0, r1⟩ := flo_bd (a := h * x) d1
  have m1 : h * x ≤ 2001 * y := Int.le_trans (Int.mul_le_mul_of_nonneg_right hh.2 k1) (Int.mul_le_mul_of_nonneg_left k2 (by omega))
  have m2 : -(2001 * y) ≤ h * x := by
    have a1 := Int.mul_le_mul_of_nonneg_right hh.1 k1
    have a2 := Int.mul_le_mul_of_nonneg_left k2 (show (0 : Int) ≤ 2001 by omega)
    omega
  constructor
  · refine Int.le_of_mul_le_mul_right (a := y) ?_ (by omega)
    omega
  · refine Int.le_of_mul_le_mul_right (a := y) ?_ (by omega)
    omega
set_option maxHeartbeats 1000000 in
theorem atS_any (a b x y : Int) (w : World) (ha : -1000000 ≤ a ∧ a ≤ 1000000) (hb : -1000000 ≤ b ∧ b ≤ 1000000) (k1 : 0 ≤ x) (k2 : x ≤ y) (d1 : 1 ≤ y) (d2 : y ≤ 100000000000000) :
    Calls Tryz.prog 130 #[.int .i64 a, .int .i64 b, Pt x y] w fun e w' => e = .returned (.int .i64 (a + pa x y (b - a))) ∧ Ext w w' := by
  obtain ⟨l0, l1⟩ := flo_bd (a := b - a) (b := 1000) (by omega)
  have hh : -2001 ≤ flo (b - a) 1000 ∧ flo (b - a) 1000 ≤ 2001 := by omega
  have e1 : b - a = 1000 * flo (b - a) 1000 + (b - a - 1000 * flo (b - a) 1000) := by omega
  have H := Lib.hid (show a + pa x y (b - a) = a + 1000 * flo (flo (b - a) 1000 * x) y + flo (1000 * (flo (b - a) 1000 * x - flo (flo (b - a) 1000 * x) y * y) + (b - a - 1000 * flo (b - a) 1000) * x) y by
    rw [flo_ediv (a := 1000 * (flo (b - a) 1000 * x - flo (flo (b - a) 1000 * x) y * y) + (b - a - 1000 * flo (b - a) 1000) * x) d1, Int.add_assoc, at_eq _ _ _ _ _ d1, ← e1]
    rfl)
  clear e1
  have hl : 0 ≤ b - a - 1000 * flo (b - a) 1000 ∧ b - a - 1000 * flo (b - a) 1000 ≤ 999 := by omega
  obtain ⟨q1, q2⟩ := fq_bd hh k1 k2 d1
  obtain ⟨r0, r1⟩ := flo_bd (a := flo (b - a) 1000 * x) d1
  obtain ⟨p1, p2⟩ := mul_bd (x := flo (b - a) 1000) (y := x) 2001 100000000000000 hh (by omega)
  obtain ⟨s1, s2⟩ := mul_bd (x := b - a - 1000 * flo (b - a) 1000) (y := x) 999 100000000000000 (by omega) (by omega)
  simp only [Int.reduceMul, Int.reduceNeg] at p1 p2 s1 s2
  obtain ⟨z1, z2⟩ := flo_abs (a := 1000 * (flo (b - a) 1000 * x - flo (flo (b - a) 1000 * x) y * y) + (b - a - 1000 * flo (b - a) 1000) * x) d1 300000000000000000 (by omega) (by omega)
  have u1 : -300100000000000000 ≤ flo (flo (b - a) 1000 * x) y * y ∧ flo (flo (b - a) 1000 * x) y * y ≤ 300100000000000000 := by omega
  obtain ⟨u1, u2⟩ := u1
  obtain ⟨hh1, hh2⟩ := hh
  obtain ⟨hl1, hl2⟩ := hl
  go_enter Tryz.func130, Tryz.ntmps130
  go_wp2_with (go_at_call 133; refine (floor_any _ _ _ (by omega) (by omega) (by omega)).mono ?_; rintro e w1 ⟨rfl, rfl⟩)
  go_ret
  exact ⟨ret_int H.out, (by repeat (first | exact Ext.refl _ | assumption | apply Ext.alloc | apply Ext.drew | (refine Ext.trans ?_ (by assumption)) | (refine Ext.setNew ?_ (by simp <;> omega) _)))⟩
end Go.Proofs.YtknelhceaoblhaaGreat.Div
