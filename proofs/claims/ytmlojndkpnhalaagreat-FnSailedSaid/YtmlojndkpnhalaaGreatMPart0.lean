import Derived.Test.YtmlojndkpnhalaaGreatDiv
import Derived.Test.YtmlojndkpnhalaaGreatOrd
import Derived.Test.YtmlojndkpnhalaaGreatMKit
import Derived.Test.YtmlojndkpnhalaaGreatMRat
import Derived.Test.YtmlojndkpnhalaaGreatMPts
import Derived.IntWalk
namespace Go.Proofs.YtmlojndkpnhalaaGreat.Div
open Go.ChangeShapes Go.WideShapes Go.ChangeAt Go.RowKit
open Go.Proofs.YtmlojndkpnhalaaGreat.Num Go.Proofs.YtmlojndkpnhalaaGreat.Kit Go.Proofs.YtmlojndkpnhalaaGreat.Pts Go.Proofs.YtmlojndkpnhalaaGreat.Cmp Go.Proofs.YtmlojndkpnhalaaGreat.Gcd
set_option linter.unusedVariables false
set_option linter.unusedSimpArgs false
theorem ab_bd' {n : Int} (h1 : -2000000 ≤ n) (h2 : n ≤ 2000000) : 0 ≤ ab n ∧ ab n ≤ 2000000 := by
  unfold ab; by_cases h : n < 0
  · rw [if_pos h]; omega
  · rw [if_neg h]; omega
theorem flo_ediv {a b : Int} (hb : 1 ≤ b) : flo a b = a / b := by
  obtain ⟨h1, h2⟩ := flo_bd (a := a) hb
  have e := Int.mul_ediv_add_emod a b
  have m1 := Int.emod_nonneg a (show b ≠ 0 by omega)
  have m2 := Int.emod_lt_of_pos a (show 0 < b by omega)
  have k1 : flo a b < a / b + 1 := by
    refine Int.lt_of_mul_lt_mul_right (a := b) ?_ (by omega)
    rw [Int.add_mul, Int.one_mul, Int.mul_comm (a / b) b]; omega
  have k2 : a / b < flo a b + 1 := by
    refine Int.lt_of_mul_lt_mul_right (a := b) ?_ (by omega)
    rw [Int.add_mul, Int.one_mul, Int.mul_comm (a / b) b]; omega
  omega
def pa (num den n : Int) : Int := n * num / den
theorem neg_div (P y : Nat) (hy : 1 ≤ y) : (-(P : Int)) / (y : Int) = if P % y = 0 then -((P / y : Nat) : Int) else -((P / y : Nat) : Int) - 1 := by
  have e := Nat.div_add_mod P y
  have m := Nat.mod_lt P (show 0 < y by omega)
  have pe : ((y * (P / y) : Nat) : Int) = (y : Int) * ((P / y : Nat) : Int) := Int.natCast_mul _ _
  by_cases h : P % y = 0
  · rw [if_pos h]
    rw [show -(P : Int) = -((P / y : Nat) : Int) * (y : Int) by rw [Int.neg_mul, Int.mul_comm, ← pe]; omega]
    exact Int.mul_ediv_cancel _ (by omega)
  · rw [if_neg h]
    rw [show -(P : Int) = ((y : Int) - ((P % y : Nat) : Int)) + (-((P / y : Nat) : Int) - 1) * (y : Int) by rw [Int.sub_mul, Int.neg_mul, Int.mul_comm, ← pe]; omega]
    rw [Int.add_mul_ediv_right _ _ (by omega), Int.ediv_eq_zero_of_lt (by omega) (by omega)]
    omega
theorem div64_any (hi lo y : Nat) (w : World) (h2 : hi < y) (y2 : y ≤ 100000000000000) (l2 : lo < 18446744073709551616) :
    Calls Tryz.prog 312 #[.int .u64 hi, .int .u64 lo, .int .u64 y] w fun e w' => e = .returned (.tuple #[.int .u64 (((hi * 18446744073709551616 + lo) / y : Nat) : Int), .int .u64 (((hi * 18446744073709551616 + lo) % y : Nat) : Int)]) ∧ Ext w w' := by
  rcases Nat.eq_zero_or_pos hi with h | h
  · subst h
    rw [Nat.zero_mul, Nat.zero_add]
    exact div64_zero lo y w (by omega) y2 l2
  · exact div64_some hi lo y w h h2 y2 l2
theorem div64_prod (P y : Nat) (w : World) (h2 : P / 18446744073709551616 < y) (y2 : y ≤ 100000000000000) :
    Calls Tryz.prog 312 #[.int .u64 ((P / 18446744073709551616 : Nat) : Int), .int .u64 ((P % 18446744073709551616 : Nat) : Int), .int .u64 y] w fun e w' => e = .returned (.tuple #[.int .u64 ((P / y : Nat) : Int), .int .u64 ((P % y : Nat) : Int)]) ∧ Ext w w' := by
  have h := div64_any (P / 18446744073709551616) (P % 18446744073709551616) y w h2 y2 (Nat.mod_lt _ (by omega))
  rw [show P / 18446744073709551616 * 18446744073709551616 + P % 18446744073709551616 = P by omega] at h
  exact h
set_option maxHeartbeats 1000000 in
theorem wholeAndRest_any (x y A : Nat) (w : World) (k2 : x ≤ y) (d1 : 1 ≤ y) (d2 : y ≤ 100000000000000) (A2 : A ≤ 1000000000) :
    Calls Tryz.prog 279 #[Pt x y, .int .i64 A] w fun e w' => e = .returned (.tuple #[.int .i64 ((A * x / y : Nat) : Int), .int .i64 ((A * x % y : Nat) : Int)]) ∧ Ext w w' := by
  have P2 : A * x ≤ 1000000000 * y := Nat.mul_le_mul A2 (by omega)
  have hhi : A * x / 18446744073709551616 < y := by omega
  have hq : A * x / y ≤ 1000000000 := by
    rw [← Nat.lt_succ_iff, Nat.div_lt_iff_lt_mul (by omega)]; omega
  have hr : A * x % y < y := Nat.mod_lt _ (by omega)
  have eP : ((A * x : Nat) : Int) = (A : Int) * (x : Int) := Int.natCast_mul A x
  have HD := fun w' => div64_prod (A * x) y w' hhi d2
  generalize A * x / y = Q at *
  generalize A * x % y = R at *
  replace HD := Lib.hid HD
  have W1 : IntKind.u64.wrap (A : Int) = (A : Int) := by rw [IntKind.wrap_u64]; omega
  have W2 : IntKind.u64.wrap (x : Int) = (x : Int) := by rw [IntKind.wrap_u64]; omega
  have W3 : IntKind.u64.wrap (y : Int) = (y : Int) := by rw [IntKind.wrap_u64]; omega
  generalize hW : w.alloc (.cells #[.int .i64 (x : Int), .int .i64 (y : Int)] 186) = W
  have ec0 : W.cell? ⟨w.heap.size, 0, none⟩ = some (.int .i64 (x : Int)) := hW ▸ boxed 0 rfl rfl
  have ec1 : W.cell? ⟨w.heap.size, 1, none⟩ = some (.int .i64 (y : Int)) := hW ▸ boxed 1 rfl rfl
  have hX : Ext w W := hW ▸ (Ext.refl w).alloc _
  clear P2 hhi eP
  go_enter Tryz.func279, Tryz.ntmps279
  go_wp2_with fail
  refine (Tryz.bits_Mul64 A x (by omega) (by omega) _).mono ?_
  rintro e w2 ⟨rfl, rfl⟩
  go_wp2_with fail
  refine (HD.out _).mono ?_
  rintro e w1 ⟨rfl, hy⟩
  go_wp2
  go_ret2
  exact ⟨ret_int2 rfl rfl, hX.trans hy⟩
set_option maxHeartbeats 1000000 in
theorem partOf_any (num den n : Int) (w : World) (k1 : 0 ≤ num) (k2 : num ≤ den) (d1 : 1 ≤ den) (d2 : den ≤ 100000000000000) (n1 : -2000000 ≤ n) (n2 : n ≤ 2000000) :
    Calls Tryz.prog 232 #[Pt num den, .int .i64 n] w fun e w' => e = .returned (.int .i64 (pa num den n)) ∧ Ext w w' := by
  obtain ⟨x, rfl⟩ := Int.eq_ofNat_of_zero_le k1
  obtain ⟨y, rfl⟩ := Int.eq_ofNat_of_zero_le (show 0 ≤ den by omega)
  obtain ⟨A, hA⟩ : ∃ A : Nat, ab n = (A : Int) := ⟨(ab n).toNat, by have := (ab_bd' n1 n2).1; omega⟩
  have A2 : A ≤ 2000000 := by have := (ab_bd' n1 n2).2; omega
  have P2 : A * x ≤ 2000000 * y := Nat.mul_le_mul A2 (by omega)
  have hq : A * x / y ≤ 2000000 := by
    rw [← Nat.lt_succ_iff, Nat.div_lt_iff_lt_mul (by omega)]; omega
  have hr : A * x % y < y := Nat.mod_lt _ (by omega)
  have eP : ((A * x : Nat) : Int) = (A : Int) * (x : Int) := Int.natCast_mul A x
  have HP : pa x y n = if n < 0 then (if A * x % y = 0 then -((A * x / y : Nat) : Int) else -((A * x / y : Nat) : Int) - 1) else ((A * x / y : Nat) : Int) := by
    unfold pa
    by_cases h : n < 0
    · rw [if_pos h, ← neg_div (A * x) y (by omega), eP, ← hA, show ab n = -n from if_pos h, Int.neg_mul, Int.neg_neg]
    · rw [if_neg h, Int.natCast_ediv, eP, ← hA, show ab n = n from if_neg h]
  replace HP := Lib.hid HP
  have hAbs : ∀ w', Calls Tryz.prog 162 #[.int .i64 n] w' fun e w'' => e = .returned (.int .i64 (A : Int)) ∧ w' = w'' := fun w' => by rw [← hA]; exact absolute_any n w' (by omega) (by omega)
  replace hAbs := Lib.hid hAbs
  have hWR := fun w' => wholeAndRest_any x y A w' (by omega) (by omega) (by omega) (by omega)
  clear eP hA P2
  generalize A * x / y = Q at *
  generalize A * x % y = R at *
  replace hWR := Lib.hid hWR
  go_enter Tryz.func232, Tryz.ntmps232
  go_wp2_with fail
  generalize hW : w.alloc (.cells #[.int .i64 (x : Int), .int .i64 (y : Int)] 186) = W
  have hX : Ext w W := hW ▸ (Ext.refl w).alloc _
  have ec0 : ∀ w', Ext W w' → w'.cell? ⟨w.heap.size, 0, none⟩ = some (.int .i64 (x : Int)) := fun w' h => h.cellOf (hW ▸ boxed 0 rfl rfl)
  have ec1 : ∀ w', Ext W w' → w'.cell? ⟨w.heap.size, 1, none⟩ = some (.int .i64 (y : Int)) := fun w' h => h.cellOf (hW ▸ boxed 1 rfl rfl)
  refine wp_region_held_drew (S := (fun w' => Ext W w')) (by kernel_rfl) (by (try dsimp only); first | go_keep | exact (Ext.refl _).drew | exact Res.new2.drew | exact Res.new4.drew | exact ResB.drew (by assumption) | exact ResC.drew (by assumption) | assumption | exact Ext.drew (by assumption) | exact Res.drew (by assumption)) (fun hHeld => ?_)
  refine Ord.K 0 8 ?_
  refine Ord.K 1 9 ?_
  (refine wpAnyH_ready (rs := [2]) (by kernel_rfl) (by simp) ?_; refine AllReadyH.cons rfl (fun K hK => ?_) AllReadyH.nil; go_simp; (first | (go_at_call 279; refine (hWR.out _).mono ?_; rintro e w2 ⟨rfl, hy⟩) | (go_at_call 162; refine (hAbs.out _).mono ?_; rintro e w1 ⟨rfl, rfl⟩)); go_wp2_with fail; (refine hK.out _ _ (by first | assumption | exact Ext.trans (by assumption) hy | exact Res.ext (by assumption) hy | exact ResB.ext (by assumption) hy | exact ResC.ext (by assumption) hy | (go_split_ands; (repeat' apply And.intro) <;> exact Ext.cellOf hy (by assumption))) (fun hHeld => ?_)); clear hK K; (try simp only [Act.put, Ord.a, Ord.b, Ord.c]))
  (refine wpAnyH_ready (rs := [3]) (by kernel_rfl) (by simp) ?_; refine AllReadyH.cons rfl (fun K hK => ?_) AllReadyH.nil; go_simp; (first | (go_at_call 279; refine (hWR.out _).mono ?_; rintro e w2 ⟨rfl, hy⟩) | (go_at_call 162; refine (hAbs.out _).mono ?_; rintro e w1 ⟨rfl, rfl⟩)); go_wp2_with fail; (refine hK.out _ _ (by first | assumption | exact Ext.trans (by assumption) hy | exact Res.ext (by assumption) hy | exact ResB.ext (by assumption) hy | exact ResC.ext (by assumption) hy | (go_split_ands; (repeat' apply And.intro) <;> exact Ext.cellOf hy (by assumption))) (fun hHeld => ?_)); clear hK K; (try simp only [Act.put, Ord.a, Ord.b, Ord.c]))
  refine Ord.K 4 7 ?_
  refine Ord.K 5 12 ?_
  refine Ord.K 6 13 ?_
  refine Ord.K 7 5 ?_
  refine Ord.K 8 6 ?_
  refine wpAnyH_done (by kernel_rfl) ?_ _
  by_cases h : n < 0
  · rw [if_pos h] at HP
    by_cases g : R = 0
    · rw [if_pos g] at HP
      have g1 : ¬ (0 : Int) < (R : Int) := by omega
      clear g
      go_wp2
      go_ret
      exact ⟨ret_int HP.out, hX.trans hHeld⟩
    · rw [if_neg g] at HP
      have g1 : (0 : Int) < (R : Int) := by omega
      clear g
      go_wp2
      go_ret
      exact ⟨ret_int (by rw [HP.out]; omega), hX.trans hHeld⟩
  · rw [if_neg h] at HP
    go_wp2
    go_ret
    exact ⟨ret_int HP.out, hX.trans hHeld⟩
end Go.Proofs.YtmlojndkpnhalaaGreat.Div
namespace Go.Proofs.YtmlojndkpnhalaaGreat.Crs
open Go.ChangeShapes Go.WideShapes Go.ChangeAt Go.RowKit
open Go.Proofs.YtmlojndkpnhalaaGreat.Num Go.Proofs.YtmlojndkpnhalaaGreat.Kit Go.Proofs.YtmlojndkpnhalaaGreat.Pts Go.Proofs.YtmlojndkpnhalaaGreat.Seg Go.Proofs.YtmlojndkpnhalaaGreat.Div
set_option linter.unusedVariables false
set_option linter.unusedSimpArgs false
theorem pa_bd {x y n : Int} (k1 : 0 ≤ x) (k2 : x ≤ y) (d1 : 1 ≤ y) (n1 : -2000000 ≤ n) (n2 : n ≤ 2000000) : -2000000 ≤ pa x y n ∧ pa x y n ≤ 2000000 := by
  have m1 : n * x ≤ 2000000 * y := Int.le_trans (Int.mul_le_mul_of_nonneg_right n2 k1) (Int.mul_le_mul_of_nonneg_left k2 (by omega))
  have m2 : -2000000 * y ≤ n * x := by
    have a1 := Int.mul_le_mul_of_nonneg_right n1 k1
    have a2 := Int.mul_le_mul_of_nonneg_left k2 (show (0 : Int) ≤ 2000000 by omega)
    omega
  unfold pa
  exact ⟨Int.le_ediv_of_mul_le (by omega) m2, by
    have := Int.ediv_le_ediv (show 0 < y by omega) m1
    rw [Int.mul_ediv_cancel _ (by omega)] at this
    exact this⟩
set_option maxHeartbeats 2000000 in
theorem at_any (a b c d x y : Int) (w : World) (ha : Co a) (hb : Co b) (hc : Co c) (hd : Co d) (k1 : 0 ≤ x) (k2 : x ≤ y) (d1 : 1 ≤ y) (d2 : y ≤ 100000000000000) :
    Calls Tryz.prog 172 #[Sg a b c d, Pt x y] w fun e w' => e = .returned (Pt (a + pa x y (c - a)) (b + pa x y (d - b))) ∧ Ext w w' := by
  obtain ⟨p0, p1⟩ := pa_bd k1 k2 d1 (n := c - a) (by omega) (by omega)
  obtain ⟨q0, q1⟩ := pa_bd k1 k2 d1 (n := d - b) (by omega) (by omega)
  have PX := Lib.hid (partOf_any x y (c - a) (k1 := k1) (k2 := k2) (d1 := d1) (d2 := d2) (n1 := by omega) (n2 := by omega))
  have PY := Lib.hid (partOf_any x y (d - b) (k1 := k1) (k2 := k2) (d1 := d1) (d2 := d2) (n1 := by omega) (n2 := by omega))
  go_enter Tryz.func172, Tryz.ntmps172
  go_wp2_with fail
  refine (vector_any _ _ _ _ _ ha hb hc hd).mono ?_
  rintro e w1 ⟨rfl, h⟩
  obtain ⟨W0, hW0⟩ : ∃ W0, W0 = (w.alloc (.cells #[.int .i64 a, .int .i64 b, .int .i64 c, .int .i64 d] 225)).alloc (.cells #[.int .i64 x, .int .i64 y] 186) := ⟨_, rfl⟩
  have hs0 : W0.heap.size = w.heap.size + 1 + 1 := by rw [hW0]; simp
  have S0 := Lib.hid ((Res.new2 (W := W0) (x := .int .i64 0) (y := .int .i64 0) (t := 25)).ext (hW0 ▸ h))
  have hX : Ext w W0 := hW0 ▸ ((Ext.refl w).alloc _).alloc _
  have cs : ∀ i v, (#[Value.int .i64 a, .int .i64 b, .int .i64 c, .int .i64 d] : Array Value)[i]? = some v → W0.cell? ⟨w.heap.size, i, none⟩ = some v := fun i v hv => by rw [hW0]; exact ((Ext.refl _).alloc _).cellOf (boxed i hv rfl)
  have cr : ∀ i v, (#[Value.int .i64 x, .int .i64 y] : Array Value)[i]? = some v → W0.cell? ⟨w.heap.size + 1, i, none⟩ = some v := fun i v hv => by rw [hW0]; exact boxed i hv (by simp)
  have z1 : w.heap.size + 1 + 1 < w1.heap.size := by have := h.size; simp at this; omega
  have S1 : ResB W0 W0.heap.size 2 w1.heap.size [.int .i64 (c - a), .int .i64 (d - b)] (w1.alloc (.cells #[.int .i64 (c - a), .int .i64 (d - b)] 25)) :=
    ⟨S0.out.ext ((Ext.refl _).alloc _), by omega, Box.new2 rfl⟩
  rw [hs0] at S1
  generalize hV : w1.alloc (.cells #[.int .i64 (c - a), .int .i64 (d - b)] 25) = V
  rw [hV] at S1
  have ea : ∀ w', ResB W0 (w.heap.size + 1 + 1) 2 w1.heap.size [.int .i64 (c - a), .int .i64 (d - b)] w' → w'.cell? ⟨w.heap.size, 0, none⟩ = some (.int .i64 a) := fun w' h => h.1.1.cellOf (cs 0 _ rfl)
  have eb : ∀ w', ResB W0 (w.heap.size + 1 + 1) 2 w1.heap.size [.int .i64 (c - a), .int .i64 (d - b)] w' → w'.cell? ⟨w.heap.size, 1, none⟩ = some (.int .i64 b) := fun w' h => h.1.1.cellOf (cs 1 _ rfl)
  have ex : ∀ w', ResB W0 (w.heap.size + 1 + 1) 2 w1.heap.size [.int .i64 (c - a), .int .i64 (d - b)] w' → w'.cell? ⟨w.heap.size + 1, 0, none⟩ = some (.int .i64 x) := fun w' h => h.1.1.cellOf (cr 0 _ rfl)
  have ey : ∀ w', ResB W0 (w.heap.size + 1 + 1) 2 w1.heap.size [.int .i64 (c - a), .int .i64 (d - b)] w' → w'.cell? ⟨w.heap.size + 1, 1, none⟩ = some (.int .i64 y) := fun w' h => h.1.1.cellOf (cr 1 _ rfl)
  have ev : ∀ w', ResB W0 (w.heap.size + 1 + 1) 2 w1.heap.size [.int .i64 (c - a), .int .i64 (d - b)] w' → w'.cell? ⟨w1.heap.size, 0, none⟩ = some (.int .i64 (c - a)) := fun w' h => h.2.2.two.1.1
  have eu : ∀ w', ResB W0 (w.heap.size + 1 + 1) 2 w1.heap.size [.int .i64 (c - a), .int .i64 (d - b)] w' → w'.cell? ⟨w1.heap.size, 1, none⟩ = some (.int .i64 (d - b)) := fun w' h => h.2.2.two.1.2
  have A1 : IntKind.i64.wrap (a + pa x y (c - a)) = a + pa x y (c - a) := IntWalk.i64_in _ (by omega)
  have A2 : IntKind.i64.wrap (b + pa x y (d - b)) = b + pa x y (d - b) := IntWalk.i64_in _ (by omega)
  clear cs cr h hW0 hs0 S0 z1
  go_wp2_with fail
  refine wp_region_held_drew (S := (ResB W0 (w.heap.size + 1 + 1) 2 w1.heap.size [.int .i64 (c - a), .int .i64 (d - b)])) (by kernel_rfl) (by (try dsimp only); first | go_keep | exact (Ext.refl _).drew | exact Res.new2.drew | exact Res.new4.drew | exact ResB.drew (by assumption) | exact ResC.drew (by assumption) | assumption | exact Ext.drew (by assumption) | exact Res.drew (by assumption)) (fun hHeld => ?_)
  refine Ord.K 0 8 ?_
  refine Ord.K 1 9 ?_
  refine Ord.K 2 10 ?_
  refine Ord.K 3 11 ?_
  refine Ord.K 4 12 ?_
  refine Ord.K 5 13 ?_
  refine Ord.K 8 16 ?_
  refine Ord.K 9 17 ?_
  refine Ord.K 10 18 ?_
  refine Ord.K 11 19 ?_
  refine Ord.K 12 20 ?_
  refine Ord.K 13 21 ?_
  (refine wpAnyH_ready (rs := [6]) (by kernel_rfl) (by simp) ?_; refine AllReadyH.cons rfl (fun K hK => ?_) AllReadyH.nil; go_simp; (first | (go_at_call 232; with_reducible refine (PX.out _).mono ?_; rintro e w2 ⟨rfl, hy⟩) | (go_at_call 232; with_reducible refine (PY.out _).mono ?_; rintro e w2 ⟨rfl, hy⟩)); go_wp2_with fail; (refine hK.out _ _ (by first | assumption | exact Ext.trans (by assumption) hy | exact Res.ext (by assumption) hy | exact ResB.ext (by assumption) hy | exact ResC.ext (by assumption) hy | (go_split_ands; (repeat' apply And.intro) <;> exact Ext.cellOf hy (by assumption))) (fun hHeld => ?_)); clear hK K; (try simp only [Act.put, Ord.a, Ord.b, Ord.c]))
  refine Ord.K 7 15 ?_
  (refine wpAnyH_ready (rs := [14]) (by kernel_rfl) (by simp) ?_; refine AllReadyH.cons rfl (fun K hK => ?_) AllReadyH.nil; go_simp; (first | (go_at_call 232; with_reducible refine (PX.out _).mono ?_; rintro e w2 ⟨rfl, hy⟩) | (go_at_call 232; with_reducible refine (PY.out _).mono ?_; rintro e w2 ⟨rfl, hy⟩)); go_wp2_with fail; (refine hK.out _ _ (by first | assumption | exact Ext.trans (by assumption) hy | exact Res.ext (by assumption) hy | exact ResB.ext (by assumption) hy | exact ResC.ext (by assumption) hy | (go_split_ands; (repeat' apply And.intro) <;> exact Ext.cellOf hy (by assumption))) (fun hHeld => ?_)); clear hK K; (try simp only [Act.put, Ord.a, Ord.b, Ord.c]))
  refine Ord.K 15 23 ?_
  refine Ord.K 16 24 ?_
  (((first | refine Exists.elim (Res.two hHeld) (fun rx rh => ?_) | refine Exists.elim (ResC.two hHeld) (fun rx rh => ?_) | refine Exists.elim (Res.two hHeld.1) (fun rx rh => ?_)); refine Exists.elim rh (fun ry rb => ?_); have r0 := rb.two.1.1; have r1 := rb.two.1.2; have r2 := rb.two.2.1; have r3 := rb.two.2.2; clear rh); refine wpAnyH_ready (rs := [17]) (by kernel_rfl) (by simp) ?_; refine AllReadyH.cons rfl (fun K hK => ?_) AllReadyH.nil; go_simp; (refine hK.out _ _ (by with_reducible exact ResB.set (ResB.set hHeld _ _) _ _) (fun hHeld => ?_)); clear hK K; (try simp only [Act.put, Ord.a, Ord.b, Ord.c]))
  refine wpAnyH_done (by kernel_rfl) ?_ _
  go_wp2
  obtain ⟨⟨g0, g1⟩, _⟩ := (rb.set2 (u := .int .i64 (a + pa x y (c - a))) (v := .int .i64 (b + pa x y (d - b)))).two
  exact bodyPost_ret (v := Pt (a + pa x y (c - a)) (b + pa x y (d - b))) (by simp [results, Tryz.results172, go_sem, g0, g1]) rfl ⟨rfl, hX.trans hHeld.1.1⟩
theorem at_small (a b c d x y : Int) (w : World) (ha : Co a) (hb : Co b) (hc : Co c) (hd : Co d) (k1 : 0 ≤ x) (k2 : x ≤ y) (d1 : 1 ≤ y) (d2 : y ≤ 1000000000) :
    Calls Tryz.prog 172 #[Sg a b c d, Pt x y] w fun e w' => e = .returned (Pt (a + pa x y (c - a)) (b + pa x y (d - b))) ∧ Ext w w' :=
  at_any a b c d x y w ha hb hc hd k1 k2 d1 (by omega)
end Go.Proofs.YtmlojndkpnhalaaGreat.Crs
