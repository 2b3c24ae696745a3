/- Hulls (chapter 9): stern, axis, how far ahead, clear astern (impl). -/
import Derived.Test.YtcangdcakgcpaaaHul
import Derived.Test.YtcangdcakgcpaaaRsz
import Derived.Test.YtcangdcakgcpaaaRat2
import Derived.Test.YtcangdcakgcpaaaWin
import Derived.Test.YtcangdcakgcpaaaRes
namespace Go.Proofs.Ytcangdcakgcpaaa.Hul
open Go.ChangeShapes Go.WideShapes Go.ChangeAt Go.RowKit
open Go.Proofs.Ytcangdcakgcpaaa.Num Go.Proofs.Ytcangdcakgcpaaa.Kit Go.Proofs.Ytcangdcakgcpaaa.Pts Go.Proofs.Ytcangdcakgcpaaa.Seg Go.Proofs.Ytcangdcakgcpaaa.Wnd Go.Proofs.Ytcangdcakgcpaaa.Rt Go.Proofs.Ytcangdcakgcpaaa.Cmp

open Go.Proofs.Ytcangdcakgcpaaa.Lth (ln2 ln2_pos sqs_bd)
set_option linter.unusedVariables false
set_option linter.unusedSimpArgs false

theorem fl_bd {a b : Int} (hb : 1 ≤ b) (M : Int) (h1 : -M ≤ a) (h2 : a ≤ M) : -M - 1 ≤ flo a b ∧ flo a b ≤ M := by
  obtain ⟨g1, g2⟩ := tdiv_bd hb M h1 h2
  unfold flo
  split <;> omega
/-- The stern of a hull. -/
def stX (a c d n : Int) : Int := a - flo (c * n) (ln2 c d)
def stY (b c d n : Int) : Int := b - flo (d * n) (ln2 c d)
/-- How far a point is ahead of a hull, times the length of the heading. -/
def alH (a b c d p q : Int) : Int := (p - a) * c + (q - b) * d
/-- Is a hull with its bow at p, q clear astern of the hull? -/
def caB (a b c d n p q : Int) : Bool := decide (alH a b c d p q < 0) && decide (rt (n * n * (c * c + d * d)) < -alH a b c d p q)

theorem st_bd {a b c d n : Int} (h : hlB a b c d n = true) :
    (-2000000001 ≤ flo (c * n) (ln2 c d) ∧ flo (c * n) (ln2 c d) ≤ 2000000000) ∧ (-2000000001 ≤ flo (d * n) (ln2 c d) ∧ flo (d * n) (ln2 c d) ≤ 2000000000) := by
  obtain ⟨⟨ha, hb⟩, ⟨hc, hd, hn⟩, n1, n2⟩ := hlB_yes h
  obtain ⟨l1, l2⟩ := ln2_pos hc hd hn
  obtain ⟨a1, a2⟩ := mul_bd 2000000 1000 hc (y := n) ⟨by omega, by omega⟩
  obtain ⟨b1, b2⟩ := mul_bd 2000000 1000 hd (y := n) ⟨by omega, by omega⟩
  simp only [Int.reduceMul, Int.reduceNeg] at a1 a2 b1 b2
  have c1 := fl_bd l1 2000000000 a1 a2
  have d1 := fl_bd l1 2000000000 b1 b2
  omega
theorem al_bd {a b c d n p q : Int} (h : hlB a b c d n = true) (hp : Co p) (hq : Co q) : -8000000000000 ≤ alH a b c d p q ∧ alH a b c d p q ≤ 8000000000000 := by
  obtain ⟨⟨ha, hb⟩, ⟨hc, hd, hn⟩, n1, n2⟩ := hlB_yes h
  unfold Co at ha hb hp hq
  obtain ⟨a1, a2⟩ := mul_bd 2000000 2000000 (x := p - a) ⟨by omega, by omega⟩ hc
  obtain ⟨b1, b2⟩ := mul_bd 2000000 2000000 (x := q - b) ⟨by omega, by omega⟩ hd
  simp only [Int.reduceMul, Int.reduceNeg] at a1 a2 b1 b2
  unfold alH
  omega

set_option maxHeartbeats 1000000 in
theorem alongI_any (a b c d n p q u v m : Int) (w : World) (h : hlB a b c d n = true) (hp : Co p) (hq : Co q) : Calls Try.prog 129 #[Hv a b c d n, Hv p q u v m] w fun e w' => e = .returned (.int .i64 (alH a b c d p q)) ∧ Ext w w' := by
  obtain ⟨⟨ha, hb⟩, ⟨hc, hd, hn⟩, n1, n2⟩ := hlB_yes h
  unfold Co at ha hb hp hq
  have PV := Lib.hid (fun w => vectorTo_any a b p q w ha hb hp hq)
  have PD := Lib.hid (fun w => show Calls Try.prog 116 #[Pt (p - a) (q - b), Pt c d] w (fun e w' => e = .returned (.int .i64 (alH a b c d p q)) ∧ Ext w w') from dotI_any (p - a) (q - b) c d w (by omega) (by omega) hc hd)
  clear hn
  obtain ⟨W0, hW0⟩ : ∃ W0, W0 = (w.alloc (.cells #[.int .i64 a, .int .i64 b, .int .i64 c, .int .i64 d, .int .i64 n] 39)).alloc (.cells #[.int .i64 p, .int .i64 q, .int .i64 u, .int .i64 v, .int .i64 m] 39) := ⟨_, rfl⟩
  have hX : Ext w W0 := hW0 ▸ (((Ext.refl w).alloc _).alloc _)
  have hs0 : W0.heap.size = w.heap.size + 1 + 1 := by rw [hW0]; simp
  have e00 : ∀ w', (Ext W0) w' → w'.cell? ⟨w.heap.size, 0, none⟩ = some (.int .i64 a) := fun w' h => h.cellOf (by rw [hW0]; exact ((Ext.refl _).alloc _).cellOf (boxed 0 rfl (by simp)))
  have e01 : ∀ w', (Ext W0) w' → w'.cell? ⟨w.heap.size, 1, none⟩ = some (.int .i64 b) := fun w' h => h.cellOf (by rw [hW0]; exact ((Ext.refl _).alloc _).cellOf (boxed 1 rfl (by simp)))
  have e02 : ∀ w', (Ext W0) w' → w'.cell? ⟨w.heap.size, 2, none⟩ = some (.int .i64 c) := fun w' h => h.cellOf (by rw [hW0]; exact ((Ext.refl _).alloc _).cellOf (boxed 2 rfl (by simp)))
  have e03 : ∀ w', (Ext W0) w' → w'.cell? ⟨w.heap.size, 3, none⟩ = some (.int .i64 d) := fun w' h => h.cellOf (by rw [hW0]; exact ((Ext.refl _).alloc _).cellOf (boxed 3 rfl (by simp)))
  have e04 : ∀ w', (Ext W0) w' → w'.cell? ⟨w.heap.size, 4, none⟩ = some (.int .i64 n) := fun w' h => h.cellOf (by rw [hW0]; exact ((Ext.refl _).alloc _).cellOf (boxed 4 rfl (by simp)))
  have e10 : ∀ w', (Ext W0) w' → w'.cell? ⟨w.heap.size + 1, 0, none⟩ = some (.int .i64 p) := fun w' h => h.cellOf (by rw [hW0]; exact boxed 0 rfl (by simp))
  have e11 : ∀ w', (Ext W0) w' → w'.cell? ⟨w.heap.size + 1, 1, none⟩ = some (.int .i64 q) := fun w' h => h.cellOf (by rw [hW0]; exact boxed 1 rfl (by simp))
  have e12 : ∀ w', (Ext W0) w' → w'.cell? ⟨w.heap.size + 1, 2, none⟩ = some (.int .i64 u) := fun w' h => h.cellOf (by rw [hW0]; exact boxed 2 rfl (by simp))
  have e13 : ∀ w', (Ext W0) w' → w'.cell? ⟨w.heap.size + 1, 3, none⟩ = some (.int .i64 v) := fun w' h => h.cellOf (by rw [hW0]; exact boxed 3 rfl (by simp))
  have e14 : ∀ w', (Ext W0) w' → w'.cell? ⟨w.heap.size + 1, 4, none⟩ = some (.int .i64 m) := fun w' h => h.cellOf (by rw [hW0]; exact boxed 4 rfl (by simp))
  go_enter Try.func129, Try.ntmps129
  go_wp2_with fail
  rw [← hW0]
  clear hW0
  have hr := Ext.refl W0
  refine wp_region_held_drew (S := (fun w' => Ext W0 w')) (by kernel_rfl) (by (try dsimp only); first | go_keep | exact (Ext.refl _).drew | exact Res.new2.drew | exact Res.new4.drew | exact ResB.drew (by assumption) | exact ResC.drew (by assumption) | assumption | exact Ext.drew (by assumption) | exact Res.drew (by assumption)) (fun hHeld => ?_)
  refine Ord.K 0 5 ?_
  refine Ord.K 1 6 ?_
  refine Ord.K 2 7 ?_
  refine Ord.K 3 8 ?_
  refine Ord.K 5 10 ?_
  refine Ord.K 6 11 ?_
  (refine wpAnyH_ready (rs := [4]) (by kernel_rfl) (by simp) ?_; refine AllReadyH.cons rfl (fun K hK => ?_) AllReadyH.nil; go_simp; (first | (go_at_call 93; refine (PV.out _).mono ?_; rintro e w4 ⟨rfl, hy⟩) | (go_at_call 116; refine (PD.out _).mono ?_; rintro e w4 ⟨rfl, hy⟩)); go_wp2_with fail; (refine hK.out _ _ (by first | assumption | exact Ext.trans (by assumption) hy | exact Res.ext (by assumption) hy | exact ResB.ext (by assumption) hy | exact ResC.ext (by assumption) hy | (go_split_ands; (repeat' apply And.intro) <;> exact Ext.cellOf hy (by assumption))) (fun hHeld => ?_)); clear hK K; (try simp only [Act.put, Ord.a, Ord.b, Ord.c]))
  (refine wpAnyH_ready (rs := [7]) (by kernel_rfl) (by simp) ?_; refine AllReadyH.cons rfl (fun K hK => ?_) AllReadyH.nil; go_simp; (first | (go_at_call 93; refine (PV.out _).mono ?_; rintro e w4 ⟨rfl, hy⟩) | (go_at_call 116; refine (PD.out _).mono ?_; rintro e w4 ⟨rfl, hy⟩)); go_wp2_with fail; (refine hK.out _ _ (by first | assumption | exact Ext.trans (by assumption) hy | exact Res.ext (by assumption) hy | exact ResB.ext (by assumption) hy | exact ResC.ext (by assumption) hy | (go_split_ands; (repeat' apply And.intro) <;> exact Ext.cellOf hy (by assumption))) (fun hHeld => ?_)); clear hK K; (try simp only [Act.put, Ord.a, Ord.b, Ord.c]))
  refine Ord.K 8 4 ?_
  refine wpAnyH_done (by kernel_rfl) ?_ _
  go_wp2
  go_ret
  exact ⟨rfl, hX.trans (by assumption)⟩

theorem ca_no {a b c d n p q : Int} (h : ¬ alH a b c d p q < 0) : caB a b c d n p q = false := by unfold caB; rw [decide_eq_false h]; rfl
theorem ca_yes {a b c d n p q : Int} (h : alH a b c d p q < 0) : caB a b c d n p q = decide (rt (n * n * (c * c + d * d)) < -alH a b c d p q) := by unfold caB; rw [decide_eq_true h]; rfl
theorem ca_cmp {a b c d n p q : Int} (h : alH a b c d p q < 0) : caB a b c d n p q = decide (0 < cmpZ (-alH a b c d p q * -alH a b c d p q) (n * n * (c * c + d * d))) := by
  have hK : 0 ≤ n * n * (c * c + d * d) := Int.mul_nonneg (Lth.sq_nn n) (by have := Lth.sq_nn c; have := Lth.sq_nn d; omega)
  have hl := Win.le_rt (x := -alH a b c d p q) (K := n * n * (c * c + d * d)) (by omega) hK
  rw [ca_yes h]
  have e1 : decide (rt (n * n * (c * c + d * d)) < -alH a b c d p q) = !decide (-alH a b c d p q ≤ rt (n * n * (c * c + d * d))) := by
    by_cases g : -alH a b c d p q ≤ rt (n * n * (c * c + d * d))
    · rw [decide_eq_true g, decide_eq_false (by omega)]; rfl
    · rw [decide_eq_false g, decide_eq_true (by omega)]; rfl
  rw [e1, hl, ← Win.cmp_le]
  by_cases g : cmpZ (-alH a b c d p q * -alH a b c d p q) (n * n * (c * c + d * d)) ≤ 0
  · rw [decide_eq_true g, decide_eq_false (by omega)]; rfl
  · rw [decide_eq_false g, decide_eq_true (by omega)]; rfl

set_option maxHeartbeats 1000000 in
theorem hasAstern_any (a b c d n p q u v m : Int) (w : World) (h : hlB a b c d n = true) (hp : Co p) (hq : Co q) : Calls Try.prog 113 #[Hv a b c d n, Hv p q u v m] w fun e w' => e = .returned (.bool (caB a b c d n p q)) ∧ Ext w w' := by
  obtain ⟨A1, A2⟩ := al_bd h hp hq
  have PA := Lib.hid (fun w => alongI_any a b c d n p q u v m w h hp hq)
  obtain ⟨⟨ha, hb⟩, ⟨hc, hd, hn⟩, n1, n2⟩ := hlB_yes h
  have PQ := Lib.hid (fun w => squareLength_any c d w hc hd)
  obtain ⟨s0, s1⟩ := sqs_bd hc hd
  have N0 : 0 ≤ n * n ∧ n * n ≤ 1000000 := by
    have := mul_bd 1000 1000 (x := n) (y := n) ⟨by omega, by omega⟩ ⟨by omega, by omega⟩
    have := Lth.sq_nn n
    simp only [Int.reduceMul, Int.reduceNeg] at *
    omega
  have HN := Lib.hid (fun g => ca_no (a := a) (b := b) (c := c) (d := d) (n := n) (p := p) (q := q) g)
  have HY := Lib.hid (fun g => ca_cmp (a := a) (b := b) (c := c) (d := d) (n := n) (p := p) (q := q) g)
  obtain ⟨K, hK⟩ : ∃ K, K = caB a b c d n p q := ⟨_, rfl⟩
  obtain ⟨L, hL⟩ : ∃ L, L = alH a b c d p q := ⟨_, rfl⟩
  obtain ⟨Q, hQ⟩ : ∃ Q, Q = c * c + d * d := ⟨_, rfl⟩
  rw [← hK, ← hL] at HN
  rw [← hK, ← hL, ← hQ] at HY
  rw [← hK]
  rw [← hL] at PA A1 A2
  rw [← hQ] at PQ s0 s1
  clear hK hL hQ hn h hp hq ha hb hc hd
  have T0 : IntKind.i64.wrap (-L) = -L := IntWalk.i64_in _ (by omega)
  have T1 : IntKind.i64.wrap (n * n) = n * n := IntWalk.i64_in _ (by omega)
  obtain ⟨W0, hW0⟩ : ∃ W0, W0 = (w.alloc (.cells #[.int .i64 a, .int .i64 b, .int .i64 c, .int .i64 d, .int .i64 n] 39)).alloc (.cells #[.int .i64 p, .int .i64 q, .int .i64 u, .int .i64 v, .int .i64 m] 39) := ⟨_, rfl⟩
  have hX : Ext w W0 := hW0 ▸ (((Ext.refl w).alloc _).alloc _)
  have hs0 : W0.heap.size = w.heap.size + 1 + 1 := by rw [hW0]; simp
  have e00 : ∀ w', (Ext W0) w' → w'.cell? ⟨w.heap.size, 0, none⟩ = some (.int .i64 a) := fun w' h => h.cellOf (by rw [hW0]; exact ((Ext.refl _).alloc _).cellOf (boxed 0 rfl (by simp)))
  have e01 : ∀ w', (Ext W0) w' → w'.cell? ⟨w.heap.size, 1, none⟩ = some (.int .i64 b) := fun w' h => h.cellOf (by rw [hW0]; exact ((Ext.refl _).alloc _).cellOf (boxed 1 rfl (by simp)))
  have e02 : ∀ w', (Ext W0) w' → w'.cell? ⟨w.heap.size, 2, none⟩ = some (.int .i64 c) := fun w' h => h.cellOf (by rw [hW0]; exact ((Ext.refl _).alloc _).cellOf (boxed 2 rfl (by simp)))
  have e03 : ∀ w', (Ext W0) w' → w'.cell? ⟨w.heap.size, 3, none⟩ = some (.int .i64 d) := fun w' h => h.cellOf (by rw [hW0]; exact ((Ext.refl _).alloc _).cellOf (boxed 3 rfl (by simp)))
  have e04 : ∀ w', (Ext W0) w' → w'.cell? ⟨w.heap.size, 4, none⟩ = some (.int .i64 n) := fun w' h => h.cellOf (by rw [hW0]; exact ((Ext.refl _).alloc _).cellOf (boxed 4 rfl (by simp)))
  have e10 : ∀ w', (Ext W0) w' → w'.cell? ⟨w.heap.size + 1, 0, none⟩ = some (.int .i64 p) := fun w' h => h.cellOf (by rw [hW0]; exact boxed 0 rfl (by simp))
  have e11 : ∀ w', (Ext W0) w' → w'.cell? ⟨w.heap.size + 1, 1, none⟩ = some (.int .i64 q) := fun w' h => h.cellOf (by rw [hW0]; exact boxed 1 rfl (by simp))
  have e12 : ∀ w', (Ext W0) w' → w'.cell? ⟨w.heap.size + 1, 2, none⟩ = some (.int .i64 u) := fun w' h => h.cellOf (by rw [hW0]; exact boxed 2 rfl (by simp))
  have e13 : ∀ w', (Ext W0) w' → w'.cell? ⟨w.heap.size + 1, 3, none⟩ = some (.int .i64 v) := fun w' h => h.cellOf (by rw [hW0]; exact boxed 3 rfl (by simp))
  have e14 : ∀ w', (Ext W0) w' → w'.cell? ⟨w.heap.size + 1, 4, none⟩ = some (.int .i64 m) := fun w' h => h.cellOf (by rw [hW0]; exact boxed 4 rfl (by simp))
  go_enter Try.func113, Try.ntmps113
  go_wp2_with fail
  rw [← hW0]
  clear hW0
  refine (PA.out _).mono ?_
  rintro e w1 ⟨rfl, hz⟩
  by_cases hl : L < 0
  · have H := Lib.hid (HY.out hl)
    have G : (0 < -L) := by omega
    have PC := Lib.hid (fun w => compareProducts_int (-L) (-L) (n * n) Q w (by omega) (by omega) (by omega) (by omega) N0.1 (by omega) s0 (by omega))
    clear HY HN A1 A2 N0 s0 s1
    obtain ⟨Z, hZ⟩ : ∃ Z, Z = cmpZ (-L * -L) (n * n * Q) := ⟨_, rfl⟩
    rw [← hZ] at PC H
    clear hZ
    go_wp2_with fail
    refine wp_region_held_drew (S := (fun w' => Ext W0 w')) (by kernel_rfl) (by (try dsimp only); first | go_keep | exact (Ext.refl _).drew | exact Res.new2.drew | exact Res.new4.drew | exact ResB.drew (by assumption) | exact ResC.drew (by assumption) | assumption | exact Ext.drew (by assumption) | exact Res.drew (by assumption)) (fun hHeld => ?_)
    refine Ord.K 0 10 ?_
    refine Ord.K 1 11 ?_
    refine Ord.K 2 12 ?_
    (first | (refine Ord.s 3 13 ?_ ?_; rfl; (try simp only [Act.put, Ord.a, Ord.b, Ord.c])) | refine Ord.K 3 13 ?_)
    (first | (refine Ord.s 4 14 ?_ ?_; rfl; (try simp only [Act.put, Ord.a, Ord.b, Ord.c])) | refine Ord.K 4 14 ?_)
    (first | (refine Ord.s 5 15 ?_ ?_; rfl; (try simp only [Act.put, Ord.a, Ord.b, Ord.c])) | refine Ord.K 5 15 ?_)
    (first | (refine Ord.s 6 16 ?_ ?_; rfl; (try simp only [Act.put, Ord.a, Ord.b, Ord.c])) | refine Ord.K 6 16 ?_)
    (first | (refine Ord.s 7 17 ?_ ?_; rfl; (try simp only [Act.put, Ord.a, Ord.b, Ord.c])) | refine Ord.K 7 17 ?_)
    (first | (refine Ord.s 8 18 ?_ ?_; rfl; (try simp only [Act.put, Ord.a, Ord.b, Ord.c])) | refine Ord.K 8 18 ?_)
    (first | (refine Ord.s 9 19 ?_ ?_; rfl; (try simp only [Act.put, Ord.a, Ord.b, Ord.c])) | refine Ord.K 9 19 ?_)
    (first | (refine Ord.s 10 20 ?_ ?_; rfl; (try simp only [Act.put, Ord.a, Ord.b, Ord.c])) | refine Ord.K 10 20 ?_)
    (first | (refine Ord.s 11 21 ?_ ?_; rfl; (try simp only [Act.put, Ord.a, Ord.b, Ord.c])) | refine Ord.K 11 21 ?_)
    (first | (refine Ord.s 12 22 ?_ ?_; rfl; (try simp only [Act.put, Ord.a, Ord.b, Ord.c])) | (refine wpAnyH_ready (rs := [12]) (by kernel_rfl) (by simp) ?_; refine AllReadyH.cons rfl (fun K hK => ?_) AllReadyH.nil; go_simp; (first | (go_at_call 94; refine (PQ.out _).mono ?_; rintro e w4 ⟨rfl, hy⟩) | (go_at_call 130; refine (PC.out _).mono ?_; rintro e w4 ⟨rfl, hy⟩)); go_wp2_with fail; (refine hK.out _ _ (by first | assumption | exact Ext.trans (by assumption) hy | exact Res.ext (by assumption) hy | exact ResB.ext (by assumption) hy | exact ResC.ext (by assumption) hy | (go_split_ands; (repeat' apply And.intro) <;> exact Ext.cellOf hy (by assumption))) (fun hHeld => ?_)); clear hK K; (try simp only [Act.put, Ord.a, Ord.b, Ord.c])))
    (first | (refine Ord.s 13 23 ?_ ?_; rfl; (try simp only [Act.put, Ord.a, Ord.b, Ord.c])) | (refine wpAnyH_ready (rs := [13]) (by kernel_rfl) (by simp) ?_; refine AllReadyH.cons rfl (fun K hK => ?_) AllReadyH.nil; go_simp; (first | (go_at_call 94; refine (PQ.out _).mono ?_; rintro e w4 ⟨rfl, hy⟩) | (go_at_call 130; refine (PC.out _).mono ?_; rintro e w4 ⟨rfl, hy⟩)); go_wp2_with fail; (refine hK.out _ _ (by first | assumption | exact Ext.trans (by assumption) hy | exact Res.ext (by assumption) hy | exact ResB.ext (by assumption) hy | exact ResC.ext (by assumption) hy | (go_split_ands; (repeat' apply And.intro) <;> exact Ext.cellOf hy (by assumption))) (fun hHeld => ?_)); clear hK K; (try simp only [Act.put, Ord.a, Ord.b, Ord.c])))
    (first | (refine Ord.s 14 24 ?_ ?_; rfl; (try simp only [Act.put, Ord.a, Ord.b, Ord.c])) | refine Ord.K 14 24 ?_)
    refine Ord.K 15 25 ?_
    refine Ord.K 16 4 ?_
    refine wpAnyH_done (by kernel_rfl) ?_ _
    go_wp2
    go_ret
    exact ⟨ret_bool H.out, hX.trans (by assumption)⟩
  · have H := Lib.hid (HN.out (by omega))
    have G1 : decide (0 < -L) = false := decide_eq_false (by omega)
    have G2 : decide (L < 0) = false := decide_eq_false hl
    clear hl
    clear HY HN A1 A2 N0 s0 s1
    go_wp2_with fail
    refine wp_region_held_drew (S := (fun w' => Ext W0 w')) (by kernel_rfl) (by (try dsimp only); first | go_keep | exact (Ext.refl _).drew | exact Res.new2.drew | exact Res.new4.drew | exact ResB.drew (by assumption) | exact ResC.drew (by assumption) | assumption | exact Ext.drew (by assumption) | exact Res.drew (by assumption)) (fun hHeld => ?_)
    refine Ord.K 0 10 ?_
    refine Ord.K 1 11 ?_
    refine Ord.K 2 12 ?_
    (first | (refine Ord.s 3 13 ?_ ?_; rfl; (try simp only [Act.put, Ord.a, Ord.b, Ord.c])) | refine Ord.K 3 13 ?_)
    (first | (refine Ord.s 4 14 ?_ ?_; rfl; (try simp only [Act.put, Ord.a, Ord.b, Ord.c])) | refine Ord.K 4 14 ?_)
    (first | (refine Ord.s 5 15 ?_ ?_; rfl; (try simp only [Act.put, Ord.a, Ord.b, Ord.c])) | refine Ord.K 5 15 ?_)
    (first | (refine Ord.s 6 16 ?_ ?_; rfl; (try simp only [Act.put, Ord.a, Ord.b, Ord.c])) | refine Ord.K 6 16 ?_)
    (first | (refine Ord.s 7 17 ?_ ?_; rfl; (try simp only [Act.put, Ord.a, Ord.b, Ord.c])) | refine Ord.K 7 17 ?_)
    (first | (refine Ord.s 8 18 ?_ ?_; rfl; (try simp only [Act.put, Ord.a, Ord.b, Ord.c])) | refine Ord.K 8 18 ?_)
    (first | (refine Ord.s 9 19 ?_ ?_; rfl; (try simp only [Act.put, Ord.a, Ord.b, Ord.c])) | refine Ord.K 9 19 ?_)
    (first | (refine Ord.s 10 20 ?_ ?_; rfl; (try simp only [Act.put, Ord.a, Ord.b, Ord.c])) | refine Ord.K 10 20 ?_)
    (first | (refine Ord.s 11 21 ?_ ?_; rfl; (try simp only [Act.put, Ord.a, Ord.b, Ord.c])) | refine Ord.K 11 21 ?_)
    (first | (refine Ord.s 12 22 ?_ ?_; rfl; (try simp only [Act.put, Ord.a, Ord.b, Ord.c])) | (refine wpAnyH_ready (rs := [12]) (by kernel_rfl) (by simp) ?_; refine AllReadyH.cons rfl (fun K hK => ?_) AllReadyH.nil; go_simp; (first | (go_at_call 94; refine (PQ.out _).mono ?_; rintro e w4 ⟨rfl, hy⟩)); go_wp2_with fail; (refine hK.out _ _ (by first | assumption | exact Ext.trans (by assumption) hy | exact Res.ext (by assumption) hy | exact ResB.ext (by assumption) hy | exact ResC.ext (by assumption) hy | (go_split_ands; (repeat' apply And.intro) <;> exact Ext.cellOf hy (by assumption))) (fun hHeld => ?_)); clear hK K; (try simp only [Act.put, Ord.a, Ord.b, Ord.c])))
    (first | (refine Ord.s 13 23 ?_ ?_; rfl; (try simp only [Act.put, Ord.a, Ord.b, Ord.c])) | (refine wpAnyH_ready (rs := [13]) (by kernel_rfl) (by simp) ?_; refine AllReadyH.cons rfl (fun K hK => ?_) AllReadyH.nil; go_simp; (first | (go_at_call 94; refine (PQ.out _).mono ?_; rintro e w4 ⟨rfl, hy⟩)); go_wp2_with fail; (refine hK.out _ _ (by first | assumption | exact Ext.trans (by assumption) hy | exact Res.ext (by assumption) hy | exact ResB.ext (by assumption) hy | exact ResC.ext (by assumption) hy | (go_split_ands; (repeat' apply And.intro) <;> exact Ext.cellOf hy (by assumption))) (fun hHeld => ?_)); clear hK K; (try simp only [Act.put, Ord.a, Ord.b, Ord.c])))
    (first | (refine Ord.s 14 24 ?_ ?_; rfl; (try simp only [Act.put, Ord.a, Ord.b, Ord.c])) | refine Ord.K 14 24 ?_)
    refine Ord.K 15 25 ?_
    refine Ord.K 16 4 ?_
    refine wpAnyH_done (by kernel_rfl) ?_ _
    go_wp2
    go_ret
    exact ⟨ret_bool H.out, hX.trans (by assumption)⟩

end Go.Proofs.Ytcangdcakgcpaaa.Hul
