/- Exact times of chapter 5: contracts of momentAt, compare (impl), l05Divide, l05Exact, l05Compare (spec). -/
import Derived.Test.YtccggjhmnbebbaaSpd
import Derived.Test.YtccggjhmnbebbaaPart0
import Derived.Test.YtccggjhmnbebbaaRat2
import Derived.Test.YtccggjhmnbebbaaRes5
namespace Go.Proofs.Ytccggjhmnbebbaa.Trk
open Go.ChangeShapes Go.WideShapes Go.ChangeAt Go.RowKit
open Go.Proofs.Ytccggjhmnbebbaa.Num Go.Proofs.Ytccggjhmnbebbaa.Kit Go.Proofs.Ytccggjhmnbebbaa.Pts Go.Proofs.Ytccggjhmnbebbaa.Seg Go.Proofs.Ytccggjhmnbebbaa.Div Go.Proofs.Ytccggjhmnbebbaa.Cmp
set_option linter.unusedVariables false
set_option linter.unusedSimpArgs false

/-- The exact time of a place on a leg: whole milliseconds and the rest, in parts of the denominator. -/
def mwI (fs : List F3) (k : Nat) (x y : Int) : Int := (fx fs k).t + durI fs k * x / y
def mrI (fs : List F3) (k : Nat) (x y : Int) : Int := durI fs k * x % y

theorem wholeAndRest_int (n x y : Int) (w : World) (n0 : 0 ≤ n) (n1 : n ≤ 1000000000) (k1 : 0 ≤ x) (k2 : x ≤ y) (d1 : 1 ≤ y) (d2 : y ≤ 100000000000000) :
    Calls Try.prog 63 #[Pt x y, .int .i64 n] w fun e w' => e = .returned (.tuple #[.int .i64 (n * x / y), .int .i64 (n * x % y)]) ∧ Ext w w' := by
  obtain ⟨x, rfl⟩ := Int.eq_ofNat_of_zero_le k1
  obtain ⟨y, rfl⟩ := Int.eq_ofNat_of_zero_le (show 0 ≤ y by omega)
  obtain ⟨n, rfl⟩ := Int.eq_ofNat_of_zero_le n0
  have h := wholeAndRest_any x y n w (by omega) (by omega) (by omega) (by omega)
  rw [Int.natCast_ediv, Int.natCast_emod, Int.natCast_mul] at h
  exact h

theorem mom_bd {fs : List F3} {k : Nat} {x y : Int} (hv : trB fs = true) (hk : k + 1 < fs.length) (k1 : 0 ≤ x) (k2 : x ≤ y) (d1 : 1 ≤ y) :
    0 ≤ durI fs k * x / y ∧ durI fs k * x / y ≤ durI fs k ∧ 0 ≤ mrI fs k x y ∧ mrI fs k x y < y ∧ 0 ≤ (fx fs k).t ∧ (fx fs k).t + durI fs k ≤ 1000000000 := by
  obtain ⟨_, d0, d9⟩ := leg_bounds hv hk
  obtain ⟨_, hok⟩ := trB_yes hv
  have t0 := (fxB_yes (okB_fx (hok k (by omega)))).1
  have t1 := (fxB_yes (okB_fx (hok (k + 1) hk))).1
  have m1 : durI fs k * x ≤ durI fs k * y := Int.mul_le_mul_of_nonneg_left k2 (by omega)
  have m0 : 0 ≤ durI fs k * x := Int.mul_nonneg (by omega) k1
  refine ⟨Int.ediv_nonneg m0 (by omega), ?_, Int.emod_nonneg _ (by omega), Int.emod_lt_of_pos _ (by omega), t0.1, by unfold durI; omega⟩
  have := Int.ediv_le_ediv (show 0 < y by omega) m1
  rw [Int.mul_ediv_cancel _ (by omega)] at this
  exact this

set_option maxHeartbeats 1000000 in
theorem momentAt_any (a : Option Addr) (cap : Nat) (fs : List F3) (k : Nat) (x y : Int) (w : World) (hf : Fxs w a fs) (hk : k + 1 < fs.length) (hv : trB fs = true) (k1 : 0 ≤ x) (k2 : x ≤ y) (d1 : 1 ≤ y) (d2 : y ≤ 100000000000000) :
    Calls Try.prog 38 #[Tr (.slice a fs.length cap), .int .i64 k, Pt x y] w fun e w' => e = .returned (Fx (mwI fs k x y) (mrI fs k x y) y) ∧ Ext w w' := by
  obtain ⟨⟨h2, h40⟩, _⟩ := trB_yes hv
  have BD := Lib.hid (mom_bd hv hk k1 k2 d1)
  have HD := Lib.hid (leg_bounds hv hk).2
  have HF := Lib.hid hf
  rcases hf.2 with h | ⟨b, off, rfl, hb⟩
  · rw [h] at hk; simp at hk
  obtain ⟨c0, _, _⟩ := hb k (by omega)
  have i0 : (0 : Int) ≤ (k : Int) := by omega
  have i1 : (k : Int) < (fs.length : Int) := by omega
  have T0 : IntKind.i64.wrap (k : Int) = (k : Int) := IntWalk.i64_in _ (by omega)
  have E1 : IntKind.i64.wrap ((fx fs k).t + durI fs k * x / y) = (fx fs k).t + durI fs k * x / y := IntWalk.i64_in _ (by have := BD.out; omega)
  obtain ⟨W0, hW0⟩ : ∃ W0, W0 = (w.alloc (.cells #[.slice (some ⟨b, off, none⟩) fs.length cap] 26)).alloc (.cells #[.int .i64 x, .int .i64 y] 40) := ⟨_, rfl⟩
  have hX : Ext w W0 := hW0 ▸ ((Ext.refl w).alloc _).alloc _
  have hs0 : W0.heap.size = w.heap.size + 1 + 1 := by rw [hW0]; simp
  have S0 := Res.new3 (W := W0) (x := .int .i64 0) (y := .int .i64 0) (z := .int .i64 0) (t := 78)
  rw [hs0] at S0
  have et : ∀ w', Res W0 (w.heap.size + 1 + 1) 3 w' → w'.cell? ⟨w.heap.size, 0, none⟩ = some (.slice (some ⟨b, off, none⟩) fs.length cap) := fun w' h => h.1.cellOf (by rw [hW0]; exact ((Ext.refl _).alloc _).cellOf (boxed 0 rfl rfl))
  have ex : ∀ w', Res W0 (w.heap.size + 1 + 1) 3 w' → w'.cell? ⟨w.heap.size + 1, 0, none⟩ = some (.int .i64 x) := fun w' h => h.1.cellOf (by rw [hW0]; exact boxed 0 rfl (by simp))
  have ey : ∀ w', Res W0 (w.heap.size + 1 + 1) 3 w' → w'.cell? ⟨w.heap.size + 1, 1, none⟩ = some (.int .i64 y) := fun w' h => h.1.cellOf (by rw [hW0]; exact boxed 1 rfl (by simp))
  have ef : ∀ w', Res W0 (w.heap.size + 1 + 1) 3 w' → w'.cell? ⟨b, off + k * 3, none⟩ = some (.int .i64 (fx fs k).t) := fun w' h => h.1.cellOf (hX.cellOf c0)
  clear hf hb c0 hs0
  generalize hW1 : W0.alloc (.cells #[.int .i64 0, .int .i64 0, .int .i64 0] 78) = W1 at S0
  have PW := Lib.hid (fun w' => wholeAndRest_int (durI fs k) x y w' (by have := HD.out; omega) (by have := HD.out; omega) k1 k2 d1 d2)
  have HM := Lib.hid (show mwI fs k x y = (fx fs k).t + durI fs k * x / y from rfl)
  have HR := Lib.hid (show mrI fs k x y = durI fs k * x % y from rfl)
  go_enter Try.func38, Try.ntmps38
  go_wp2_with fail
  rw [← hW0, hW1]
  clear hW0 hW1
  refine wp_region_held_drew (S := (Res W0 (w.heap.size + 1 + 1) 3)) (by kernel_rfl) (by (try dsimp only); first | go_keep | exact (Ext.refl _).drew | exact Res.new2.drew | exact Res.new4.drew | exact ResB.drew (by assumption) | exact ResC.drew (by assumption) | assumption | exact Ext.drew (by assumption) | exact Res.drew (by assumption)) (fun hHeld => ?_)
  (refine Ord.takeH 0 10 (v := ?_) rfl rfl (by kernel_rfl) (by kernel_rfl) (by kernel_rfl) (fun _ _ _ h => h) (by rfl) ?_ (by assumption) ?_; rotate_left; (intro w hSw; (try dsimp only at hSw); go_simp; (first | done | with_reducible rfl)); (try simp only [Act.put, List.setIfInBounds_toArray, List.set_cons_zero, List.set_cons_succ]))
  (refine Ord.takeH 1 11 (v := ?_) rfl rfl (by kernel_rfl) (by kernel_rfl) (by kernel_rfl) (fun _ _ _ h => h) (by rfl) ?_ (by assumption) ?_; rotate_left; (intro w hSw; (try dsimp only at hSw); go_simp; (first | done | with_reducible rfl)); (try simp only [Act.put, List.setIfInBounds_toArray, List.set_cons_zero, List.set_cons_succ]))
  (refine Ord.takeH 2 12 (v := ?_) rfl rfl (by kernel_rfl) (by kernel_rfl) (by kernel_rfl) (fun _ _ _ h => h) (by rfl) ?_ (by assumption) ?_; rotate_left; (intro w hSw; (try dsimp only at hSw); go_simp; (first | done | with_reducible rfl)); (try simp only [Act.put, List.setIfInBounds_toArray, List.set_cons_zero, List.set_cons_succ]))
  (refine wpAnyH_ready (rs := [3]) (by kernel_rfl) (by simp) ?_; refine AllReadyH.cons rfl (fun K hK => ?_) AllReadyH.nil; go_simp; (first | (go_at_call 64; refine (duration_any _ _ _ _ _ (HF.out.ext (hX.trans (by assumption : Res W0 (w.heap.size + 1 + 1) 3 _).1)) hk hv).mono ?_; rintro e w2 ⟨rfl, hy⟩) | (go_at_call 63; refine (PW.out _).mono ?_; rintro e w3 ⟨rfl, hy⟩)); go_wp2_with fail; (refine hK.out _ _ (by first | assumption | exact Ext.trans (by assumption) hy | exact Res.ext (by assumption) hy | exact ResB.ext (by assumption) hy | exact ResC.ext (by assumption) hy | (go_split_ands; (repeat' apply And.intro) <;> exact Ext.cellOf hy (by assumption))) (fun hHeld => ?_)); clear hK K; (try simp only [Act.put, List.setIfInBounds_toArray, List.set_cons_zero, List.set_cons_succ]))
  (refine wpAnyH_ready (rs := [4]) (by kernel_rfl) (by simp) ?_; refine AllReadyH.cons rfl (fun K hK => ?_) AllReadyH.nil; go_simp; (first | (go_at_call 64; refine (duration_any _ _ _ _ _ (HF.out.ext (hX.trans (by assumption : Res W0 (w.heap.size + 1 + 1) 3 _).1)) hk hv).mono ?_; rintro e w2 ⟨rfl, hy⟩) | (go_at_call 63; refine (PW.out _).mono ?_; rintro e w3 ⟨rfl, hy⟩)); go_wp2_with fail; (refine hK.out _ _ (by first | assumption | exact Ext.trans (by assumption) hy | exact Res.ext (by assumption) hy | exact ResB.ext (by assumption) hy | exact ResC.ext (by assumption) hy | (go_split_ands; (repeat' apply And.intro) <;> exact Ext.cellOf hy (by assumption))) (fun hHeld => ?_)); clear hK K; (try simp only [Act.put, List.setIfInBounds_toArray, List.set_cons_zero, List.set_cons_succ]))
  (refine Ord.takeH 5 9 (v := ?_) rfl rfl (by kernel_rfl) (by kernel_rfl) (by kernel_rfl) (fun _ _ _ h => h) (by rfl) ?_ (by assumption) ?_; rotate_left; (intro w hSw; (try dsimp only at hSw); go_simp; (first | done | with_reducible rfl)); (try simp only [Act.put, List.setIfInBounds_toArray, List.set_cons_zero, List.set_cons_succ]))
  (refine Ord.takeH 6 15 (v := ?_) rfl rfl (by kernel_rfl) (by kernel_rfl) (by kernel_rfl) (fun _ _ _ h => h) (by rfl) ?_ (by assumption) ?_; rotate_left; (intro w hSw; (try dsimp only at hSw); go_simp; (first | done | with_reducible rfl)); (try simp only [Act.put, List.setIfInBounds_toArray, List.set_cons_zero, List.set_cons_succ]))
  (refine Ord.takeH 7 16 (v := ?_) rfl rfl (by kernel_rfl) (by kernel_rfl) (by kernel_rfl) (fun _ _ _ h => h) (by rfl) ?_ (by assumption) ?_; rotate_left; (intro w hSw; (try dsimp only at hSw); go_simp; (first | done | with_reducible rfl)); (try simp only [Act.put, List.setIfInBounds_toArray, List.set_cons_zero, List.set_cons_succ]))
  (refine Ord.takeH 8 7 (v := ?_) rfl rfl (by kernel_rfl) (by kernel_rfl) (by kernel_rfl) (fun _ _ _ h => h) (by rfl) ?_ (by assumption) ?_; rotate_left; (intro w hSw; (try dsimp only at hSw); go_simp; (first | done | with_reducible rfl)); (try simp only [Act.put, List.setIfInBounds_toArray, List.set_cons_zero, List.set_cons_succ]))
  (refine Ord.takeH 9 8 (v := ?_) rfl rfl (by kernel_rfl) (by kernel_rfl) (by kernel_rfl) (fun _ _ _ h => h) (by rfl) ?_ (by assumption) ?_; rotate_left; (intro w hSw; (try dsimp only at hSw); go_simp; (first | done | with_reducible rfl)); (try simp only [Act.put, List.setIfInBounds_toArray, List.set_cons_zero, List.set_cons_succ]))
  refine wpAnyH_done (by kernel_rfl) ?_ _
  generalize durI fs k * x / y = P at *
  generalize durI fs k * x % y = R at *
  go_wp2_with fail
  refine wp_region_held_drew (S := (Res W0 (w.heap.size + 1 + 1) 3)) (by kernel_rfl) (by (try dsimp only); first | go_keep | exact (Ext.refl _).drew | exact Res.new2.drew | exact Res.new4.drew | exact ResB.drew (by assumption) | exact ResC.drew (by assumption) | assumption | exact Ext.drew (by assumption) | exact Res.drew (by assumption)) (fun hHeld => ?_)
  generalize w3.drew = wd at hHeld ⊢
  (refine Ord.takeH 0 17 (v := ?_) rfl rfl (by kernel_rfl) (by kernel_rfl) (by kernel_rfl) (fun _ _ _ h => h) (by rfl) ?_ (by assumption) ?_; rotate_left; (intro w hSw; (try dsimp only at hSw); go_simp; (first | done | with_reducible rfl)); (try simp only [Act.put, List.setIfInBounds_toArray, List.set_cons_zero, List.set_cons_succ]))
  (refine Ord.takeH 1 18 (v := ?_) rfl rfl (by kernel_rfl) (by kernel_rfl) (by kernel_rfl) (fun _ _ _ h => h) (by rfl) ?_ (by assumption) ?_; rotate_left; (intro w hSw; (try dsimp only at hSw); go_simp; (first | done | with_reducible rfl)); (try simp only [Act.put, List.setIfInBounds_toArray, List.set_cons_zero, List.set_cons_succ]))
  (refine Ord.takeH 2 19 (v := ?_) rfl rfl (by kernel_rfl) (by kernel_rfl) (by kernel_rfl) (fun _ _ _ h => h) (by rfl) ?_ (by assumption) ?_; rotate_left; (intro w hSw; (try dsimp only at hSw); go_simp; (first | done | with_reducible rfl)); (try simp only [Act.put, List.setIfInBounds_toArray, List.set_cons_zero, List.set_cons_succ]))
  (refine Ord.takeH 3 20 (v := ?_) rfl rfl (by kernel_rfl) (by kernel_rfl) (by kernel_rfl) (fun _ _ _ h => h) (by rfl) ?_ (by assumption) ?_; rotate_left; (intro w hSw; (try dsimp only at hSw); go_simp; (first | done | with_reducible rfl)); (try simp only [Act.put, List.setIfInBounds_toArray, List.set_cons_zero, List.set_cons_succ]))
  (refine Ord.takeH 4 21 (v := ?_) rfl rfl (by kernel_rfl) (by kernel_rfl) (by kernel_rfl) (fun _ _ _ h => h) (by rfl) ?_ (by assumption) ?_; rotate_left; (intro w hSw; (try dsimp only at hSw); go_simp; (first | done | with_reducible rfl)); (try simp only [Act.put, List.setIfInBounds_toArray, List.set_cons_zero, List.set_cons_succ]))
  (refine Ord.takeH 5 22 (v := ?_) rfl rfl (by kernel_rfl) (by kernel_rfl) (by kernel_rfl) (fun _ _ _ h => h) (by rfl) ?_ (by assumption) ?_; rotate_left; (intro w hSw; (try dsimp only at hSw); go_simp; (first | done | with_reducible rfl)); (try simp only [Act.put, List.setIfInBounds_toArray, List.set_cons_zero, List.set_cons_succ]))
  (refine Ord.takeH 6 23 (v := ?_) rfl rfl (by kernel_rfl) (by kernel_rfl) (by kernel_rfl) (fun _ _ _ h => h) (by rfl) ?_ (by assumption) ?_; rotate_left; (intro w hSw; (try dsimp only at hSw); go_simp; (first | done | with_reducible rfl)); (try simp only [Act.put, List.setIfInBounds_toArray, List.set_cons_zero, List.set_cons_succ]))
  (refine Ord.takeH 7 24 (v := ?_) rfl rfl (by kernel_rfl) (by kernel_rfl) (by kernel_rfl) (fun _ _ _ h => h) (by rfl) ?_ (by assumption) ?_; rotate_left; (intro w hSw; (try dsimp only at hSw); go_simp; (first | done | with_reducible rfl)); (try simp only [Act.put, List.setIfInBounds_toArray, List.set_cons_zero, List.set_cons_succ]))
  (refine Ord.takeH 8 25 (v := ?_) rfl rfl (by kernel_rfl) (by kernel_rfl) (by kernel_rfl) (fun _ _ _ h => h) (by rfl) ?_ (by assumption) ?_; rotate_left; (intro w hSw; (try dsimp only at hSw); go_simp; (first | done | with_reducible rfl)); (try simp only [Act.put, List.setIfInBounds_toArray, List.set_cons_zero, List.set_cons_succ]))
  (refine Ord.takeH 9 26 (v := ?_) rfl rfl (by kernel_rfl) (by kernel_rfl) (by kernel_rfl) (fun _ _ _ h => h) (by rfl) ?_ (by assumption) ?_; rotate_left; (intro w hSw; (try dsimp only at hSw); go_simp; (first | done | with_reducible rfl)); (try simp only [Act.put, List.setIfInBounds_toArray, List.set_cons_zero, List.set_cons_succ]))
  (refine Ord.takeH 10 27 (v := ?_) rfl rfl (by kernel_rfl) (by kernel_rfl) (by kernel_rfl) (fun _ _ _ h => h) (by rfl) ?_ (by assumption) ?_; rotate_left; (intro w hSw; (try dsimp only at hSw); go_simp; (first | done | with_reducible rfl)); (try simp only [Act.put, List.setIfInBounds_toArray, List.set_cons_zero, List.set_cons_succ]))
  (refine Ord.takeH 11 28 (v := ?_) rfl rfl (by kernel_rfl) (by kernel_rfl) (by kernel_rfl) (fun _ _ _ h => h) (by rfl) ?_ (by assumption) ?_; rotate_left; (intro w hSw; (try dsimp only at hSw); go_simp; (first | done | with_reducible rfl)); (try simp only [Act.put, List.setIfInBounds_toArray, List.set_cons_zero, List.set_cons_succ]))
  (refine Ord.takeH 12 29 (v := ?_) rfl rfl (by kernel_rfl) (by kernel_rfl) (by kernel_rfl) (fun _ _ _ h => h) (by rfl) ?_ (by assumption) ?_; rotate_left; (intro w hSw; (try dsimp only at hSw); go_simp; (first | done | with_reducible rfl)); (try simp only [Act.put, List.setIfInBounds_toArray, List.set_cons_zero, List.set_cons_succ]))
  ((refine Exists.elim (Res.three hHeld) (fun rx rh => ?_); refine Exists.elim rh (fun ry rh => ?_); refine Exists.elim rh (fun rz rb => ?_); have r0 := rb.three'.1.1; have r1 := rb.three'.1.2.1; have r2 := rb.three'.1.2.2; have r3 := rb.three'.2.1; have r4 := rb.three'.2.2.1; have r5 := rb.three'.2.2.2; clear rh; (try simp only [World.cell?_drew, World.frozen?_drew] at r0 r1 r2 r3 r4 r5)); refine wpAnyH_ready (rs := [13]) (by kernel_rfl) (by simp) ?_; refine AllReadyH.cons rfl (fun K hK => ?_) AllReadyH.nil; go_simp; (refine hK.out _ _ (by with_reducible exact Res.set (Res.set (Res.set hHeld _ _) _ _) _ _) (fun hHeld => ?_)); clear hK K; (try simp only [Act.put, List.setIfInBounds_toArray, List.set_cons_zero, List.set_cons_succ]))
  refine wpAnyH_done (by kernel_rfl) ?_ _
  go_wp2
  obtain ⟨⟨g0, g1, g2⟩, _⟩ := (rb.set3 (a := .int .i64 ((fx fs k).t + P)) (b := .int .i64 R) (c := .int .i64 y)).three'
  exact bodyPost_ret (v := Fx (mwI fs k x y) (mrI fs k x y) y) (by rw [HM.out, HR.out]; simp [results, Try.results38, go_sem, g0, g1, g2]) rfl ⟨rfl, hX.trans hHeld.1⟩

end Go.Proofs.Ytccggjhmnbebbaa.Trk
