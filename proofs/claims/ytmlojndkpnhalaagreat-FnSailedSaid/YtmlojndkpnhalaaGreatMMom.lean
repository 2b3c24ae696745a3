import Derived.Test.YtmlojndkpnhalaaGreatSpd
import Derived.Test.YtmlojndkpnhalaaGreatMPart0
import Derived.Test.YtmlojndkpnhalaaGreatRat2
import Derived.Test.YtmlojndkpnhalaaGreatRes5
import Derived.Deep.LoopGhost
namespace Go.Proofs.YtmlojndkpnhalaaGreat.Trk
open Go.ChangeShapes Go.WideShapes Go.ChangeAt Go.RowKit
open Go.Proofs.YtmlojndkpnhalaaGreat.Num Go.Proofs.YtmlojndkpnhalaaGreat.Kit Go.Proofs.YtmlojndkpnhalaaGreat.Pts Go.Proofs.YtmlojndkpnhalaaGreat.Seg Go.Proofs.YtmlojndkpnhalaaGreat.Div Go.Proofs.YtmlojndkpnhalaaGreat.Cmp
set_option linter.unusedVariables false
set_option linter.unusedSimpArgs false
def mwI (fs : List F3) (k : Nat) (x y : Int) : Int := (fx fs k).t + durI fs k * x / y
def mrI (fs : List F3) (k : Nat) (x y : Int) : Int := durI fs k * x % y
theorem wholeAndRest_int (n x y : Int) (w : World) (n0 : 0 ≤ n) (n1 : n ≤ 1000000000) (k1 : 0 ≤ x) (k2 : x ≤ y) (d1 : 1 ≤ y) (d2 : y ≤ 100000000000000) :
    Calls Tryz.prog 279 #[Pt x y, .int .i64 n] w fun e w' => e = .returned (.tuple #[.int .i64 (n * x / y), .int .i64 (n * x % y)]) ∧ Ext w w' := by
  obtain ⟨x, rfl⟩ := Int.eq_ofNat_of_zero_le k1
  obtain ⟨y, rfl⟩ := Int.eq_ofNat_of_zero_le (show 0 ≤ y by omega)
  obtain ⟨n, rfl⟩ := Int.eq_ofNat_of_zero_le n0
  have h := wholeAndRest_any x y n w (by omega) (by omega) (by omega) (by omega)
  rw [Int.natCast_ediv, Int.natCast_emod, Int.natCast_mul] at h
  exact h
theorem mom_bd {fs : List F3} {k : Nat} {x y : Int} (hv : trB fs = true) (hk : k + 1 < fs.length) (k1 : 0 ≤ x) (k2 : x ≤ y) (d1 : 1 ≤ y) :
    0 ≤ durI fs k * x / y ∧ durI fs k * x / y ≤ durI fs k ∧ 0 ≤ mrI fs k x y ∧ mrI fs k x y < y ∧ 0 ≤ (fx fs k).t ∧ (fx fs k).t + durI fs k ≤ 1000000000 := by
  obtain ⟨_, d0, d9⟩ := leg_bounds hv hk
  obtain ⟨_, hok⟩ := trB_yes hv
  have t0 := (fxB_yes (okB_fx (hok k (by omega)))).1
  have t1 := (fxB_yes (okB_fx (hok (k + 1) hk))).1
  have m1 : durI fs k * x ≤ durI fs k * y := Int.mul_le_mul_of_nonneg_left k2 (by omega)
  have m0 : 0 ≤ durI fs k * x := Int.mul_nonneg (by omega) k1
  refine ⟨Int.ediv_nonneg m0 (by omega), ?_, Int.emod_nonneg _ (by omega), Int.emod_lt_of_pos _ (by omega), t0.1, by unfold durI; omega⟩
  have := Int.ediv_le_ediv (show 0 < y by omega) m1
  rw [Int.mul_ediv_cancel _ (by omega)] at this
  exact this
set_option maxHeartbeats 1000000 in
theorem momentAt_any (a : Option Addr) (cap : Nat) (fs : List F3) (k : Nat) (x y : Int) (w : World) (hf : Fxs w a fs) (hk : k + 1 < fs.length) (hv : trB fs = true) (k1 : 0 ≤ x) (k2 : x ≤ y) (d1 : 1 ≤ y) (d2 : y ≤ 100000000000000) :
    Calls Tryz.prog 247 #[Tr (.slice a fs.length cap), .int .i64 k, Pt x y] w fun e w' => e = .returned (Fx (mwI fs k x y) (mrI fs k x y) y) ∧ Ext w w' := by
  obtain ⟨⟨h2, h40⟩, _⟩ := trB_yes hv
  have BD := Lib.hid (mom_bd hv hk k1 k2 d1)
  have HD := Lib.hid (leg_bounds hv hk).2
  have HF := Lib.hid hf
  rcases hf.2 with h | ⟨b, off, rfl, hb⟩
  · rw [h] at hk; simp at hk
  obtain ⟨c0, _, _⟩ := hb k (by omega)
  have i0 : (0 : Int) ≤ (k : Int) := by omega
  have i1 : (k : Int) < (fs.length : Int) := by omega
  have T0 : IntKind.i64.wrap (k : Int) = (k : Int) := IntWalk.i64_in _ (by omega)
  have E1 : IntKind.i64.wrap ((fx fs k).t + durI fs k * x / y) = (fx fs k).t + durI fs k * x / y := IntWalk.i64_in _ (by have := BD.out; omega)
  obtain ⟨W0, hW0⟩ : ∃ W0, W0 = (w.alloc (.cells #[.slice (some ⟨b, off, none⟩) fs.length cap] 33)).alloc (.cells #[.int .i64 x, .int .i64 y] 186) := ⟨_, rfl⟩
  have hX : Ext w W0 := hW0 ▸ ((Ext.refl w).alloc _).alloc _
  have hs0 : W0.heap.size = w.heap.size + 1 + 1 := by rw [hW0]; simp
  have S0 := Res.new3 (W := W0) (x := .int .i64 0) (y := .int .i64 0) (z := .int .i64 0) (t := 310)
  rw [hs0] at S0
  have et : ∀ w', Res W0 (w.heap.size + 1 + 1) 3 w' → w'.cell? ⟨w.heap.size, 0, none⟩ = some (.slice (some ⟨b, off, none⟩) fs.length cap) := fun w' h => h.1.cellOf (by rw [hW0]; exact ((Ext.refl _).alloc _).cellOf (boxed 0 rfl rfl))
  have ex : ∀ w', Res W0 (w.heap.size + 1 + 1) 3 w' → w'.cell? ⟨w.heap.size + 1, 0, none⟩ = some (.int .i64 x) := fun w' h => h.1.cellOf (by rw [hW0]; exact boxed 0 rfl (by simp))
  have ey : ∀ w', Res W0 (w.heap.size + 1 + 1) 3 w' → w'.cell? ⟨w.heap.size + 1, 1, none⟩ = some (.int .i64 y) := fun w' h => h.1.cellOf (by rw [hW0]; exact boxed 1 rfl (by simp))
  have ef : ∀ w', Res W0 (w.heap.size + 1 + 1) 3 w' → w'.cell? ⟨b, off + k * 3, none⟩ = some (.int .i64 (fx fs k).t) := fun w' h => h.1.cellOf (hX.cellOf c0)
  clear hf hb c0 hs0
  generalize hW1 : W0.alloc (.cells #[.int .i64 0, .int .i64 0, .int .i64 0] 310) = W1 at S0
  have PW := Lib.hid (fun w' => wholeAndRest_int (durI fs k) x y w' (by have := HD.out; omega) (by have := HD.out; omega) k1 k2 d1 d2)
  have HM := Lib.hid (show mwI fs k x y = (fx fs k).t + durI fs k * x / y from rfl)
  have HR := Lib.hid (show mrI fs k x y = durI fs k * x % y from rfl)
  go_enter Tryz.func247, Tryz.ntmps247
  go_wp2_with fail
  rw [← hW0, hW1]
  clear hW0 hW1
  refine wp_region_held_drew (S := (Res W0 (w.heap.size + 1 + 1) 3)) (by kernel_rfl) (by (try dsimp only); first | go_keep | exact (Ext.refl _).drew | exact Res.new2.drew | exact Res.new4.drew | exact ResB.drew (by assumption) | exact ResC.drew (by assumption) | assumption | exact Ext.drew (by assumption) | exact Res.drew (by assumption)) (fun hHeld => ?_)
  refine Ord.K 0 10 ?_
  refine Ord.K 1 11 ?_
  refine Ord.K 2 12 ?_
  (refine wpAnyH_ready (rs := [3]) (by kernel_rfl) (by simp) ?_; refine AllReadyH.cons rfl (fun K hK => ?_) AllReadyH.nil; go_simp; (first | (go_at_call 173; refine (duration_any _ _ _ _ _ (HF.out.ext (hX.trans (by assumption : Res W0 (w.heap.size + 1 + 1) 3 _).1)) hk hv).mono ?_; rintro e w2 ⟨rfl, hy⟩) | (go_at_call 279; refine (PW.out _).mono ?_; rintro e w3 ⟨rfl, hy⟩)); go_wp2_with fail; (refine hK.out _ _ (by first | assumption | exact Ext.trans (by assumption) hy | exact Res.ext (by assumption) hy | exact ResB.ext (by assumption) hy | exact ResC.ext (by assumption) hy | (go_split_ands; (repeat' apply And.intro) <;> exact Ext.cellOf hy (by assumption))) (fun hHeld => ?_)); clear hK K; (try simp only [Act.put, Ord.a, Ord.b, Ord.c]))
  (refine wpAnyH_ready (rs := [4]) (by kernel_rfl) (by simp) ?_; refine AllReadyH.cons rfl (fun K hK => ?_) AllReadyH.nil; go_simp; (first | (go_at_call 173; refine (duration_any _ _ _ _ _ (HF.out.ext (hX.trans (by assumption : Res W0 (w.heap.size + 1 + 1) 3 _).1)) hk hv).mono ?_; rintro e w2 ⟨rfl, hy⟩) | (go_at_call 279; refine (PW.out _).mono ?_; rintro e w3 ⟨rfl, hy⟩)); go_wp2_with fail; (refine hK.out _ _ (by first | assumption | exact Ext.trans (by assumption) hy | exact Res.ext (by assumption) hy | exact ResB.ext (by assumption) hy | exact ResC.ext (by assumption) hy | (go_split_ands; (repeat' apply And.intro) <;> exact Ext.cellOf hy (by assumption))) (fun hHeld => ?_)); clear hK K; (try simp only [Act.put, Ord.a, Ord.b, Ord.c]))
  refine Ord.K 5 9 ?_
  refine Ord.K 6 15 ?_
  refine Ord.K 7 16 ?_
  refine Ord.K 8 7 ?_
  refine Ord.K 9 8 ?_
  refine wpAnyH_done (by kernel_rfl) ?_ _
  generalize durI fs k * x / y = P at *
  generalize durI fs k * x % y = R at *
  go_wp2_with fail
  refine wp_region_held_drew (S := (Res W0 (w.heap.size + 1 + 1) 3)) (by kernel_rfl) (by (try dsimp only); first | go_keep | exact (Ext.refl _).drew | exact Res.new2.drew | exact Res.new4.drew | exact ResB.drew (by assumption) | exact ResC.drew (by assumption) | assumption | exact Ext.drew (by assumption) | exact Res.drew (by assumption)) (fun hHeld => ?_)
  generalize w3.drew = wd at hHeld ⊢
  refine Ord.K 0 17 ?_
  refine Ord.K 1 18 ?_
  refine Ord.K 2 19 ?_
  refine Ord.K 3 20 ?_
  refine Ord.K 4 21 ?_
  refine Ord.K 5 22 ?_
  refine Ord.K 6 23 ?_
  refine Ord.K 7 24 ?_
  refine Ord.K 8 25 ?_
  refine Ord.K 9 26 ?_
  refine Ord.K 10 27 ?_
  refine Ord.K 11 28 ?_
  refine Ord.K 12 29 ?_
  ((refine Exists.elim (Res.three hHeld) (fun rx rh => ?_); refine Exists.elim rh (fun ry rh => ?_); refine Exists.elim rh (fun rz rb => ?_); have r0 := rb.three'.1.1; have r1 := rb.three'.1.2.1; have r2 := rb.three'.1.2.2; have r3 := rb.three'.2.1; have r4 := rb.three'.2.2.1; have r5 := rb.three'.2.2.2; clear rh; (try simp only [World.cell?_drew, World.frozen?_drew] at r0 r1 r2 r3 r4 r5)); refine wpAnyH_ready (rs := [13]) (by kernel_rfl) (by simp) ?_; refine AllReadyH.cons rfl (fun K hK => ?_) AllReadyH.nil; go_simp; (refine hK.out _ _ (by with_reducible exact Res.set (Res.set (Res.set hHeld _ _) _ _) _ _) (fun hHeld => ?_)); clear hK K; (try simp only [Act.put, Ord.a, Ord.b, Ord.c]))
  refine wpAnyH_done (by kernel_rfl) ?_ _
  go_wp2
  obtain ⟨⟨g0, g1, g2⟩, _⟩ := (rb.set3 (a := .int .i64 ((fx fs k).t + P)) (b := .int .i64 R) (c := .int .i64 y)).three'
  exact bodyPost_ret (v := Fx (mwI fs k x y) (mrI fs k x y) y) (by rw [HM.out, HR.out]; simp [results, Tryz.results247, go_sem, g0, g1, g2]) rfl ⟨rfl, hX.trans hHeld.1⟩
end Go.Proofs.YtmlojndkpnhalaaGreat.Trk
namespace Go.Proofs.YtmlojndkpnhalaaGreat.Trk
open Go.ChangeShapes Go.WideShapes Go.ChangeAt Go.RowKit
open Go.Proofs.YtmlojndkpnhalaaGreat.Num Go.Proofs.YtmlojndkpnhalaaGreat.Kit Go.Proofs.YtmlojndkpnhalaaGreat.Pts Go.Proofs.YtmlojndkpnhalaaGreat.Seg Go.Proofs.YtmlojndkpnhalaaGreat.Div Go.Proofs.YtmlojndkpnhalaaGreat.Cmp
set_option linter.unusedVariables false
set_option linter.unusedSimpArgs false
theorem digit (m D x y : Int) (hy : 1 ≤ y) : (1000 * m + D) * x / y = 1000 * (m * x / y) + (m * x % y * 1000 + D * x) / y ∧ (1000 * m + D) * x % y = (m * x % y * 1000 + D * x) % y := by
  have e := Int.mul_ediv_add_emod (m * x) y
  have E : (1000 * m + D) * x = (m * x % y * 1000 + D * x) + 1000 * (m * x / y) * y := by
    rw [Int.add_mul, Int.mul_assoc]
    generalize m * x = P at *
    generalize P / y = Q at *
    generalize P % y = R at *
    rw [← e]
    grind
  rw [E, Int.add_mul_ediv_right _ _ (by omega), Int.add_mul_emod_self_right]
  constructor
  · omega
  · rfl
def RelY (n x y : Int) (s5 s6 s7 : Value) : Prop := ∃ s m : Int, ((s = 1000000000 ∧ m = 0) ∨ (s = 1000000 ∧ m = n / 1000000000) ∨ (s = 1000 ∧ m = n / 1000000) ∨ (s = 1 ∧ m = n / 1000) ∨ (s = 0 ∧ m = n)) ∧
  s5 = .int .i64 (m * x / y) ∧ s6 = .int .i64 (m * x % y) ∧ s7 = .int .i64 s
theorem part_bd {m D x y : Int} (k1 : 0 ≤ x) (k2 : x ≤ y) (d1 : 1 ≤ y) (d2 : y ≤ 100000000000000) (h1 : 0 ≤ D) (h2 : D ≤ 999) :
    0 ≤ m * x % y ∧ m * x % y ≤ 100000000000000 ∧ 0 ≤ D * x ∧ D * x ≤ 99900000000000000 := by
  have a1 := Int.emod_nonneg (m * x) (show y ≠ 0 by omega)
  have a2 := Int.emod_lt_of_pos (m * x) (show 0 < y by omega)
  obtain ⟨b1, b2⟩ := mul_bd (x := D) (y := x) 999 100000000000000 (by omega) (by omega)
  simp only [Int.reduceMul] at b2
  exact ⟨a1, by omega, Int.mul_nonneg h1 k1, b2⟩
theorem quo_bd {m x y : Int} (m0 : 0 ≤ m) (k1 : 0 ≤ x) (k2 : x ≤ y) (d1 : 1 ≤ y) : 0 ≤ m * x / y ∧ m * x / y ≤ m := by
  have m1 : m * x ≤ m * y := Int.mul_le_mul_of_nonneg_left k2 m0
  refine ⟨Int.ediv_nonneg (Int.mul_nonneg m0 k1) (by omega), ?_⟩
  have := Int.ediv_le_ediv (show 0 < y by omega) m1
  rw [Int.mul_ediv_cancel _ (by omega)] at this
  exact this
set_option maxHeartbeats 1000000 in
theorem divide_spec (n x y : Int) (w : World) (n0 : 0 ≤ n) (n1 : n ≤ 1000000000) (k1 : 0 ≤ x) (k2 : x ≤ y) (d1 : 1 ≤ y) (d2 : y ≤ 100000000000000) :
    Calls Tryz.prog 287 #[.int .i64 n, Pt x y] w fun e w' => e = .returned (.tuple #[.int .i64 (n * x / y), .int .i64 (n * x % y)]) ∧ Ext w w' := by
  have b0 : (w.alloc (.cells #[.int .i64 x, .int .i64 y] 186)).cell? ⟨w.heap.size, 0, none⟩ = some (.int .i64 x) := boxed 0 rfl rfl
  have b1 : (w.alloc (.cells #[.int .i64 x, .int .i64 y] 186)).cell? ⟨w.heap.size, 1, none⟩ = some (.int .i64 y) := boxed 1 rfl rfl
  have hX := (Ext.refl w).alloc (.cells #[.int .i64 x, .int .i64 y] 186)
  generalize hW : w.alloc (.cells #[.int .i64 x, .int .i64 y] 186) = W at *
  have yz : (y == 0) = false := beq_eq_false_iff_ne.2 (by omega)
  have ec0 : ∀ w', Ext W w' → w'.cell? ⟨w.heap.size, 0, none⟩ = some (.int .i64 x) := fun w' h => h.cellOf b0
  have ec1 : ∀ w', Ext W w' → w'.cell? ⟨w.heap.size, 1, none⟩ = some (.int .i64 y) := fun w' h => h.cellOf b1
  go_enter Tryz.func287, Tryz.ntmps287
  go_wp2_with fail
  clear hW b0 b1
  go_loopw [6, 7, 8] (fun s6 s7 s8 wr => RelY n x y s6 s7 s8 ∧ Ext W wr) (fun s6 s7 s8 _ => (intOf s8).toNat)
  case atStart => exact ⟨⟨1000000000, 0, .inl ⟨rfl, rfl⟩, by simp, by simp, rfl⟩, Ext.refl _⟩
  case round =>
    obtain ⟨⟨s, m, hs, rfl, rfl, rfl⟩, hx⟩ := hrel
    rcases hs with ⟨rfl, rfl⟩ | ⟨rfl, rfl⟩ | ⟨rfl, rfl⟩ | ⟨rfl, rfl⟩ | ⟨rfl, rfl⟩
    rotate_left 4
    · go_wp2
      go_ret2
      exact ⟨ret_int2 rfl rfl, hX.trans hx⟩
    · obtain ⟨D, hD⟩ : ∃ D, D = n / 1000000000 % 1000 := ⟨_, rfl⟩
      have eM : n / 1000000000 = 1000 * (0 : Int) + D := by omega
      have d0 : 0 ≤ D := by omega
      have d9 : D ≤ 999 := by omega
      obtain ⟨g1, g2⟩ := digit (0 : Int) D x y d1
      rw [← eM] at g1 g2
      obtain ⟨p0, p1, p2, p3⟩ := part_bd (m := (0 : Int)) (D := D) k1 k2 d1 d2 d0 d9
      obtain ⟨q0, q1⟩ := quo_bd (m := (0 : Int)) (by omega) k1 k2 d1
      have q2 := quo_bd (m := (n / 1000000000)) (by omega) k1 k2 d1
      rw [g1] at q2
      have G1 := Lib.hid g1
      have G2 := Lib.hid g2
      clear g1 g2 eM
      generalize (0 : Int) * x / y = Q at *
      generalize (0 : Int) * x % y = R at *
      have eD : n / 1000000000 % 1000 = D := hD.symm
      clear hD
      generalize hP : D * x = P at *
      have z0 : 0 ≤ (R * 1000 + P) / y := Int.ediv_nonneg (by omega) (by omega)
      have z1 : (R * 1000 + P) / y ≤ 1000000000 := by omega
      have c0 := ec0 _ hx
      have c1 := ec1 _ hx
      go_wp2_with fail
      go_quiet (fail)
      go_wp2
      go_roundw
      case rel => exact ⟨⟨1000000, (n / 1000000000), .inr (.inl ⟨rfl, rfl⟩), by rw [G1.out], by rw [G2.out], rfl⟩, hx.drewN _⟩
      case measure => simp [intOf]
    · obtain ⟨D, hD⟩ : ∃ D, D = n / 1000000 % 1000 := ⟨_, rfl⟩
      have eM : n / 1000000 = 1000 * (n / 1000000000) + D := by omega
      have d0 : 0 ≤ D := by omega
      have d9 : D ≤ 999 := by omega
      obtain ⟨g1, g2⟩ := digit (n / 1000000000) D x y d1
      rw [← eM] at g1 g2
      obtain ⟨p0, p1, p2, p3⟩ := part_bd (m := (n / 1000000000)) (D := D) k1 k2 d1 d2 d0 d9
      obtain ⟨q0, q1⟩ := quo_bd (m := (n / 1000000000)) (by omega) k1 k2 d1
      have q2 := quo_bd (m := (n / 1000000)) (by omega) k1 k2 d1
      rw [g1] at q2
      have G1 := Lib.hid g1
      have G2 := Lib.hid g2
      clear g1 g2 eM
      generalize (n / 1000000000) * x / y = Q at *
      generalize (n / 1000000000) * x % y = R at *
      have eD : n / 1000000 % 1000 = D := hD.symm
      clear hD
      generalize hP : D * x = P at *
      have z0 : 0 ≤ (R * 1000 + P) / y := Int.ediv_nonneg (by omega) (by omega)
      have z1 : (R * 1000 + P) / y ≤ 1000000000 := by omega
      have c0 := ec0 _ hx
      have c1 := ec1 _ hx
      go_wp2_with fail
      go_quiet (fail)
      go_wp2
      go_roundw
      case rel => exact ⟨⟨1000, (n / 1000000), .inr (.inr (.inl ⟨rfl, rfl⟩)), by rw [G1.out], by rw [G2.out], rfl⟩, hx.drewN _⟩
      case measure => simp [intOf]
    · obtain ⟨D, hD⟩ : ∃ D, D = n / 1000 % 1000 := ⟨_, rfl⟩
      have eM : n / 1000 = 1000 * (n / 1000000) + D := by omega
      have d0 : 0 ≤ D := by omega
      have d9 : D ≤ 999 := by omega
      obtain ⟨g1, g2⟩ := digit (n / 1000000) D x y d1
      rw [← eM] at g1 g2
      obtain ⟨p0, p1, p2, p3⟩ := part_bd (m := (n / 1000000)) (D := D) k1 k2 d1 d2 d0 d9
      obtain ⟨q0, q1⟩ := quo_bd (m := (n / 1000000)) (by omega) k1 k2 d1
      have q2 := quo_bd (m := (n / 1000)) (by omega) k1 k2 d1
      rw [g1] at q2
      have G1 := Lib.hid g1
      have G2 := Lib.hid g2
      clear g1 g2 eM
      generalize (n / 1000000) * x / y = Q at *
      generalize (n / 1000000) * x % y = R at *
      have eD : n / 1000 % 1000 = D := hD.symm
      clear hD
      generalize hP : D * x = P at *
      have z0 : 0 ≤ (R * 1000 + P) / y := Int.ediv_nonneg (by omega) (by omega)
      have z1 : (R * 1000 + P) / y ≤ 1000000000 := by omega
      have c0 := ec0 _ hx
      have c1 := ec1 _ hx
      go_wp2_with fail
      go_quiet (fail)
      go_wp2
      go_roundw
      case rel => exact ⟨⟨1, (n / 1000), .inr (.inr (.inr (.inl ⟨rfl, rfl⟩))), by rw [G1.out], by rw [G2.out], rfl⟩, hx.drewN _⟩
      case measure => simp [intOf]
    · obtain ⟨D, hD⟩ : ∃ D, D = n % 1000 := ⟨_, rfl⟩
      have eM : n = 1000 * (n / 1000) + D := by omega
      have d0 : 0 ≤ D := by omega
      have d9 : D ≤ 999 := by omega
      obtain ⟨g1, g2⟩ := digit (n / 1000) D x y d1
      rw [← eM] at g1 g2
      obtain ⟨p0, p1, p2, p3⟩ := part_bd (m := (n / 1000)) (D := D) k1 k2 d1 d2 d0 d9
      obtain ⟨q0, q1⟩ := quo_bd (m := (n / 1000)) (by omega) k1 k2 d1
      have q2 := quo_bd (m := (n)) (by omega) k1 k2 d1
      rw [g1] at q2
      have G1 := Lib.hid g1
      have G2 := Lib.hid g2
      clear g1 g2 eM
      generalize (n / 1000) * x / y = Q at *
      generalize (n / 1000) * x % y = R at *
      have eD : n % 1000 = D := hD.symm
      clear hD
      generalize hP : D * x = P at *
      have z0 : 0 ≤ (R * 1000 + P) / y := Int.ediv_nonneg (by omega) (by omega)
      have z1 : (R * 1000 + P) / y ≤ 1000000000 := by omega
      have c0 := ec0 _ hx
      have c1 := ec1 _ hx
      go_wp2_with fail
      go_quiet (fail)
      go_wp2
      go_roundw
      case rel => exact ⟨⟨0, n, .inr (.inr (.inr (.inr (⟨rfl, rfl⟩)))), by rw [G1.out], by rw [G2.out], rfl⟩, hx.drewN _⟩
      case measure => simp [intOf]
abbrev Cr (t l g x y : Int) : Value := .agg #[.int .i64 t, .int .i64 l, .int .i64 g, .int .i64 x, .int .i64 y]
set_option maxHeartbeats 2000000 in
theorem exact_spec (a : Option Addr) (cap : Nat) (fs : List F3) (k : Nat) (tm g x y : Int) (w : World) (hf : Fxs w a fs) (hk : k + 1 < fs.length) (hv : trB fs = true) (k1 : 0 ≤ x) (k2 : x ≤ y) (d1 : 1 ≤ y) (d2 : y ≤ 100000000000000) :
    Calls Tryz.prog 240 #[Tr (.slice a fs.length cap), Cr tm k g x y] w fun e w' => e = .returned (.tuple #[.int .i64 (mwI fs k x y), Pt (mrI fs k x y) y]) ∧ Ext w w' := by
  obtain ⟨⟨h2, h40⟩, _⟩ := trB_yes hv
  have BD := Lib.hid (mom_bd hv hk k1 k2 d1)
  obtain ⟨_, u0, u1⟩ := leg_bounds hv hk
  rcases hf.2 with h | ⟨b, off, rfl, hb⟩
  · rw [h] at hk; simp at hk
  obtain ⟨c0, c1, c2⟩ := hb k (by omega)
  obtain ⟨e0, e1, e2⟩ := hb (k + 1) hk
  have T5 : IntKind.i64.wrap ((fx fs (k + 1)).t - (fx fs k).t) = durI fs k := by rw [IntWalk.i64_in _ (by unfold durI at u0 u1; omega)]; rfl
  have i0 : (0 : Int) ≤ (k : Int) := by omega
  have i1 : (k : Int) < (fs.length : Int) := by omega
  have i2 : (0 : Int) ≤ (k : Int) + 1 := by omega
  have i3 : (k : Int) + 1 < (fs.length : Int) := by omega
  have T0 : IntKind.i64.wrap ((k : Int) + 1) = (k : Int) + 1 := wrap_succ (by omega)
  have T1 : ((k : Int) + 1).toNat = k + 1 := by omega
  have PD := Lib.hid (fun w' => divide_spec (durI fs k) x y w' (by omega) (by omega) k1 k2 d1 d2)
  have HM := Lib.hid (show mwI fs k x y = (fx fs k).t + durI fs k * x / y from rfl)
  have HR := Lib.hid (show mrI fs k x y = durI fs k * x % y from rfl)
  have E1 : IntKind.i64.wrap ((fx fs k).t + durI fs k * x / y) = (fx fs k).t + durI fs k * x / y := IntWalk.i64_in _ (by have := BD.out; omega)
  obtain ⟨W0, hW0⟩ : ∃ W0, W0 = ((w.alloc (.cells #[.slice (some ⟨b, off, none⟩) fs.length cap] 33)).alloc (.cells #[.int .i64 tm, .int .i64 k, .int .i64 g, .int .i64 x, .int .i64 y] 188)).alloc (.cells #[.int .i64 0, .int .i64 0] 186) := ⟨_, rfl⟩
  have hX : Ext w W0 := hW0 ▸ (((Ext.refl w).alloc _).alloc _).alloc _
  have hs0 : W0.heap.size = w.heap.size + 1 + 1 + 1 := by rw [hW0]; simp
  have B := Lib.hid (show Box W0 (w.heap.size + 1 + 1) [.int .i64 0, .int .i64 0] by rw [hW0]; exact Box.new2 (by simp))
  have ec : ∀ w', Ext W0 w' → w'.cell? ⟨w.heap.size, 0, none⟩ = some (.slice (some ⟨b, off, none⟩) fs.length cap) := fun w' g => g.cellOf (by rw [hW0]; exact (((Ext.refl _).alloc _).alloc _).cellOf (boxed 0 rfl rfl))
  have em1 : ∀ w', Ext W0 w' → w'.cell? ⟨w.heap.size + 1, 1, none⟩ = some (.int .i64 k) := fun w' g => g.cellOf (by rw [hW0]; exact ((Ext.refl _).alloc _).cellOf (boxed 1 rfl (by simp)))
  have em3 : ∀ w', Ext W0 w' → w'.cell? ⟨w.heap.size + 1, 3, none⟩ = some (.int .i64 x) := fun w' g => g.cellOf (by rw [hW0]; exact ((Ext.refl _).alloc _).cellOf (boxed 3 rfl (by simp)))
  have em4 : ∀ w', Ext W0 w' → w'.cell? ⟨w.heap.size + 1, 4, none⟩ = some (.int .i64 y) := fun w' g => g.cellOf (by rw [hW0]; exact ((Ext.refl _).alloc _).cellOf (boxed 4 rfl (by simp)))
  have ec0 : ∀ w', Ext W0 w' → w'.cell? ⟨b, off + k * 3, none⟩ = some (.int .i64 (fx fs k).t) := fun w' h => h.cellOf (hX.cellOf c0)
  have ec1 : ∀ w', Ext W0 w' → w'.cell? ⟨b, off + k * 3 + 1, none⟩ = some (.int .i64 (fx fs k).x) := fun w' h => h.cellOf (hX.cellOf c1)
  have ec2 : ∀ w', Ext W0 w' → w'.cell? ⟨b, off + k * 3 + 2, none⟩ = some (.int .i64 (fx fs k).y) := fun w' h => h.cellOf (hX.cellOf c2)
  have ee0 : ∀ w', Ext W0 w' → w'.cell? ⟨b, off + (k + 1) * 3, none⟩ = some (.int .i64 (fx fs (k + 1)).t) := fun w' h => h.cellOf (hX.cellOf e0)
  have ee1 : ∀ w', Ext W0 w' → w'.cell? ⟨b, off + (k + 1) * 3 + 1, none⟩ = some (.int .i64 (fx fs (k + 1)).x) := fun w' h => h.cellOf (hX.cellOf e1)
  have ee2 : ∀ w', Ext W0 w' → w'.cell? ⟨b, off + (k + 1) * 3 + 2, none⟩ = some (.int .i64 (fx fs (k + 1)).y) := fun w' h => h.cellOf (hX.cellOf e2)
  clear c0 c1 c2 e0 e1 e2 hb hf
  go_enter Tryz.func240, Tryz.ntmps240
  go_upto_region 1 with fail
  rw [← hW0]
  clear hW0
  go_cut [6, 7] (fun s s2 wx => (∃ B, s = .pointer (some ⟨B, 0, none⟩) ∧ B ≠ w.heap.size + 1 + 1 ∧ Box wx B [.int .i64 (fx fs k).t, .int .i64 (fx fs k).x, .int .i64 (fx fs k).y]) ∧ (∃ B, s2 = .pointer (some ⟨B, 0, none⟩) ∧ B ≠ w.heap.size + 1 + 1 ∧ Box wx B [.int .i64 (fx fs (k + 1)).t, .int .i64 (fx fs (k + 1)).x, .int .i64 (fx fs (k + 1)).y]) ∧ Ext W0 wx)
  case first =>
    go_region_held3 (fun w' => Ext W0 w')
      (repeat (first | exact Ext.refl _ | assumption | apply Ext.drew | apply Ext.alloc))
      (fail)
    all_goals
      go_wp2_with fail
      go_meet
      exact ⟨⟨_, rfl, by simp <;> omega, (by first | exact ((Box.new3 hs0).alloc _).drew | exact (Box.new3 (by rw [World.size_alloc, hs0])).drew)⟩, ⟨_, rfl, by simp <;> omega, (by first | exact ((Box.new3 hs0).alloc _).drew | exact (Box.new3 (by rw [World.size_alloc, hs0])).drew)⟩, ((Ext.refl _).alloc _ |>.alloc _).drew⟩
  case rest =>
    obtain ⟨⟨B6, rfl, n6, H6⟩, ⟨B7, rfl, n7, H7⟩, hx⟩ := hcut
    have f0 := (H6 0 _ rfl).1
    have g0 := (H7 0 _ rfl).1
    have q3 := em3 _ hx
    have q4 := em4 _ hx
    go_wp2_with fail
    refine (PD.out _).mono ?_
    rintro e w2 ⟨rfl, hy⟩
    replace f0 := hy.cellOf f0
    replace q3 := hy.cellOf q3
    replace q4 := hy.cellOf q4
    replace B := Lib.hid (B.out.ext (hx.trans hy))
    have Y := Lib.hid (hX.trans (hx.trans hy))
    clear ec em1 em3 em4 ec0 ec1 ec2 ee0 ee1 ee2 hx hy g0 H6 H7 T5
    generalize durI fs k * x / y = P at *
    generalize durI fs k * x % y = R at *
    have S0 : ResC w2 (w.heap.size + 1 + 1) 2 w2 := ResC.of2 B.out
    have ef0 : ∀ w', ResC w2 (w.heap.size + 1 + 1) 2 w' → w'.cell? ⟨B6, 0, none⟩ = some (.int .i64 (fx fs k).t) := fun w' h => h.cell n6 f0
    have eq4 : ∀ w', ResC w2 (w.heap.size + 1 + 1) 2 w' → w'.cell? ⟨w.heap.size + 1, 4, none⟩ = some (.int .i64 y) := fun w' h => h.cell (by simp) q4
    clear f0 q3 q4
    go_wp2_with fail
    refine wp_region_held_drew (S := (ResC w2 (w.heap.size + 1 + 1) 2)) (by kernel_rfl) (by (try dsimp only); first | go_keep | exact (Ext.refl _).drew | exact Res.new2.drew | exact Res.new4.drew | exact ResB.drew (by assumption) | exact ResC.drew (by assumption) | assumption | exact Ext.drew (by assumption) | exact Res.drew (by assumption)) (fun hHeld => ?_)
    generalize w2.drew = wd at hHeld ⊢
    refine Ord.K 0 34 ?_
    refine Ord.K 1 35 ?_
    refine Ord.K 2 36 ?_
    refine Ord.K 3 37 ?_
    refine Ord.K 4 38 ?_
    refine Ord.K 5 39 ?_
    refine Ord.K 6 40 ?_
    refine Ord.K 7 41 ?_
    refine Ord.K 8 42 ?_
    refine Ord.K 9 4 ?_
    ((first | ((first | refine Exists.elim (Res.two hHeld) (fun rx rh => ?_) | refine Exists.elim (ResC.two hHeld) (fun rx rh => ?_) | refine Exists.elim (Res.two hHeld.1) (fun rx rh => ?_)); refine Exists.elim rh (fun ry rb => ?_); have r0 := rb.two.1.1; have r1 := rb.two.1.2; have r2 := rb.two.2.1; have r3 := rb.two.2.2; clear rh) | ((first | refine Exists.elim (Res.four hHeld) (fun rx rh => ?_) | refine Exists.elim (Res.four hHeld.1) (fun rx rh => ?_)); refine Exists.elim rh (fun ry rh => ?_); refine Exists.elim rh (fun rz rh => ?_); refine Exists.elim rh (fun ru rb => ?_); have r0 := rb.four.1.1; have r1 := rb.four.1.2.1; have r2 := rb.four.1.2.2.1; have r3 := rb.four.1.2.2.2; have r4 := rb.four.2.1; have r5 := rb.four.2.2.1; have r6 := rb.four.2.2.2.1; have r7 := rb.four.2.2.2.2; clear rh) | (refine Exists.elim (Res.three hHeld) (fun rx rh => ?_); refine Exists.elim rh (fun ry rh => ?_); refine Exists.elim rh (fun rz rb => ?_); have r0 := rb.three'.1.1; have r1 := rb.three'.1.2.1; have r2 := rb.three'.1.2.2; have r3 := rb.three'.2.1; have r4 := rb.three'.2.2.1; have r5 := rb.three'.2.2.2; clear rh; (try simp only [World.cell?_drew, World.frozen?_drew] at r0 r1 r2 r3 r4 r5)) | ((first | refine Exists.elim (Res.five hHeld) (fun rx rh => ?_) | refine Exists.elim (Res.five hHeld.1) (fun rx rh => ?_)); refine Exists.elim rh (fun ry rh => ?_); refine Exists.elim rh (fun rz rh => ?_); refine Exists.elim rh (fun ru rh => ?_); refine Exists.elim rh (fun rt rb => ?_); have r0 := rb.five.1.1; have r1 := rb.five.1.2.1; have r2 := rb.five.1.2.2.1; have r3 := rb.five.1.2.2.2.1; have r4 := rb.five.1.2.2.2.2; have r5 := rb.five.2.1; have r6 := rb.five.2.2.1; have r7 := rb.five.2.2.2.1; have r8 := rb.five.2.2.2.2.1; have r9 := rb.five.2.2.2.2.2; clear rh; (try simp only [World.cell?_drew, World.frozen?_drew] at r0 r1 r2 r3 r4 r5 r6 r7 r8 r9)) | (refine Exists.elim (SD.one hHeld) (fun rx rh => ?_); have r0 := rh.1; have r1 := rh.2; clear rh)); refine wpAnyH_ready (rs := [10]) (by kernel_rfl) (by simp) ?_; refine AllReadyH.cons rfl (fun K hK => ?_) AllReadyH.nil; go_simp; (refine hK.out _ _ (by first | with_reducible exact SD.set hHeld _ | with_reducible exact Res.set (Res.set hHeld _ _) _ _ | with_reducible exact ResB.set (ResB.set hHeld _ _) _ _ | with_reducible exact ResC.set (ResC.set hHeld _ _) _ _ | with_reducible exact Res.set (Res.set (Res.set (Res.set hHeld _ _) _ _) _ _) _ _ | with_reducible exact ResB.set (ResB.set (ResB.set (ResB.set hHeld _ _) _ _) _ _) _ _ | with_reducible exact Res.set (Res.set (Res.set hHeld _ _) _ _) _ _ | with_reducible exact Res.set (Res.set (Res.set (Res.set (Res.set hHeld _ _) _ _) _ _) _ _) _ _) (fun hHeld => ?_)); clear hK K; (try simp only [Act.put, Ord.a, Ord.b, Ord.c]))
    refine wpAnyH_done (by kernel_rfl) ?_ _
    go_wp2
    obtain ⟨⟨g0, g1⟩, _⟩ := (rb.set2 (u := .int .i64 R) (v := .int .i64 y)).two
    exact bodyPost_ret (v := .tuple #[.int .i64 (mwI fs k x y), Pt (mrI fs k x y) y]) (by rw [HM.out, HR.out]; simp [results, Tryz.results240, go_sem, g0, g1]) rfl ⟨rfl, hHeld.to Y.out (by omega)⟩
end Go.Proofs.YtmlojndkpnhalaaGreat.Trk
