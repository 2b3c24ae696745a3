import Derived.Test.YtmlojndkpnhalaaGreatHul
import Derived.Test.YtmlojndkpnhalaaGreatRsz
import Derived.Test.YtmlojndkpnhalaaGreatMRat
import Derived.Test.YtmlojndkpnhalaaGreatMWin
import Derived.Test.YtmlojndkpnhalaaGreatMKit
import Derived.Test.YtmlojndkpnhalaaGreatMRoot
import Derived.Maps.RangeRun
import Derived.Laws.IdiomRangeMap
import Derived.Deep.DeepCutAuto
namespace Go.Proofs.YtmlojndkpnhalaaGreat.Hul
open Go.ChangeShapes Go.WideShapes Go.ChangeAt Go.RowKit
open Go.Proofs.YtmlojndkpnhalaaGreat.Num Go.Proofs.YtmlojndkpnhalaaGreat.Kit Go.Proofs.YtmlojndkpnhalaaGreat.Pts Go.Proofs.YtmlojndkpnhalaaGreat.Seg Go.Proofs.YtmlojndkpnhalaaGreat.Wnd Go.Proofs.YtmlojndkpnhalaaGreat.Rt Go.Proofs.YtmlojndkpnhalaaGreat.Cmp
open Go.Proofs.YtmlojndkpnhalaaGreat.Rsz (resized_any)
open Go.Proofs.YtmlojndkpnhalaaGreat.Lth (ln2 ln2_pos length_any sqs_bd)
set_option linter.unusedVariables false
set_option linter.unusedSimpArgs false
def alH (a b c d p q : Int) : Int := (p - a) * c + (q - b) * d
def caB (a b c d n p q : Int) : Bool := decide (alH a b c d p q < 0) && decide (rt (n * n * (c * c + d * d)) < -alH a b c d p q)
theorem al_bd {a b c d n p q : Int} (h : hlB a b c d n = true) (hp : Co p) (hq : Co q) : -8000000000000 ≤ alH a b c d p q ∧ alH a b c d p q ≤ 8000000000000 := by
  obtain ⟨⟨ha, hb⟩, ⟨hc, hd, hn⟩, n1, n2⟩ := hlB_yes h
  unfold Co at ha hb hp hq
  obtain ⟨a1, a2⟩ := mul_bd 2000000 2000000 (x := p - a) ⟨by omega, by omega⟩ hc
  obtain ⟨b1, b2⟩ := mul_bd 2000000 2000000 (x := q - b) ⟨by omega, by omega⟩ hd
  simp only [Int.reduceMul, Int.reduceNeg] at a1 a2 b1 b2
  unfold alH
  omega
set_option maxHeartbeats 1000000 in
theorem alongI_any (a b c d n p q u v m : Int) (w : World) (h : hlB a b c d n = true) (hp : Co p) (hq : Co q) : Calls Tryz.prog 313 #[Hv a b c d n, Hv p q u v m] w fun e w' => e = .returned (.int .i64 (alH a b c d p q)) ∧ Ext w w' := by
  obtain ⟨⟨ha, hb⟩, ⟨hc, hd, hn⟩, n1, n2⟩ := hlB_yes h
  unfold Co at ha hb hp hq
  have PV := Lib.hid (fun w => vectorTo_any a b p q w ha hb hp hq)
  have PD := Lib.hid (fun w => show Calls Tryz.prog 301 #[Pt (p - a) (q - b), Pt c d] w (fun e w' => e = .returned (.int .i64 (alH a b c d p q)) ∧ Ext w w') from dotI_any (p - a) (q - b) c d w (by omega) (by omega) hc hd)
  clear hn
  obtain ⟨W0, hW0⟩ : ∃ W0, W0 = (w.alloc (.cells #[.int .i64 a, .int .i64 b, .int .i64 c, .int .i64 d, .int .i64 n] 62)).alloc (.cells #[.int .i64 p, .int .i64 q, .int .i64 u, .int .i64 v, .int .i64 m] 62) := ⟨_, rfl⟩
  have hX : Ext w W0 := hW0 ▸ (((Ext.refl w).alloc _).alloc _)
  have hs0 : W0.heap.size = w.heap.size + 1 + 1 := by rw [hW0]; simp
  have e00 : ∀ w', (Ext W0) w' → w'.cell? ⟨w.heap.size, 0, none⟩ = some (.int .i64 a) := fun w' h => h.cellOf (by rw [hW0]; exact ((Ext.refl _).alloc _).cellOf (boxed 0 rfl (by simp)))
  have e01 : ∀ w', (Ext W0) w' → w'.cell? ⟨w.heap.size, 1, none⟩ = some (.int .i64 b) := fun w' h => h.cellOf (by rw [hW0]; exact ((Ext.refl _).alloc _).cellOf (boxed 1 rfl (by simp)))
  have e02 : ∀ w', (Ext W0) w' → w'.cell? ⟨w.heap.size, 2, none⟩ = some (.int .i64 c) := fun w' h => h.cellOf (by rw [hW0]; exact ((Ext.refl _).alloc _).cellOf (boxed 2 rfl (by simp)))
  have e03 : ∀ w', (Ext W0) w' → w'.cell? ⟨w.heap.size, 3, none⟩ = some (.int .i64 d) := fun w' h => h.cellOf (by rw [hW0]; exact ((Ext.refl _).alloc _).cellOf (boxed 3 rfl (by simp)))
  have e04 : ∀ w', (Ext W0) w' → w'.cell? ⟨w.heap.size, 4, none⟩ = some (.int .i64 n) := fun w' h => h.cellOf (by rw [hW0]; exact ((Ext.refl _).alloc _).cellOf (boxed 4 rfl (by simp)))
  have e10 : ∀ w', (Ext W0) w' → w'.cell? ⟨w.heap.size + 1, 0, none⟩ = some (.int .i64 p) := fun w' h => h.cellOf (by rw [hW0]; exact boxed 0 rfl (by simp))
  have e11 : ∀ w', (Ext W0) w' → w'.cell? ⟨w.heap.size + 1, 1, none⟩ = some (.int .i64 q) := fun w' h => h.cellOf (by rw [hW0]; exact boxed 1 rfl (by simp))
  have e12 : ∀ w', (Ext W0) w' → w'.cell? ⟨w.heap.size + 1, 2, none⟩ = some (.int .i64 u) := fun w' h => h.cellOf (by rw [hW0]; exact boxed 2 rfl (by simp))
  have e13 : ∀ w', (Ext W0) w' → w'.cell? ⟨w.heap.size + 1, 3, none⟩ = some (.int .i64 v) := fun w' h => h.cellOf (by rw [hW0]; exact boxed 3 rfl (by simp))
  have e14 : ∀ w', (Ext W0) w' → w'.cell? ⟨w.heap.size + 1, 4, none⟩ = some (.int .i64 m) := fun w' h => h.cellOf (by rw [hW0]; exact boxed 4 rfl (by simp))
  go_enter Tryz.func313, Tryz.ntmps313
  go_wp2_with fail
  rw [← hW0]
  clear hW0
  have hr := Ext.refl W0
  refine wp_region_held_drew (S := (fun w' => Ext W0 w')) (by kernel_rfl) (by (try dsimp only); first | go_keep | exact (Ext.refl _).drew | exact Res.new2.drew | exact Res.new4.drew | exact ResB.drew (by assumption) | exact ResC.drew (by assumption) | assumption | exact Ext.drew (by assumption) | exact Res.drew (by assumption)) (fun hHeld => ?_)
  refine Ord.K 0 5 ?_
  refine Ord.K 1 6 ?_
  refine Ord.K 2 7 ?_
  refine Ord.K 3 8 ?_
  refine Ord.K 5 10 ?_
  refine Ord.K 6 11 ?_
  (refine wpAnyH_ready (rs := [4]) (by kernel_rfl) (by simp) ?_; refine AllReadyH.cons rfl (fun K hK => ?_) AllReadyH.nil; go_simp; (first | (go_at_call 243; refine (PV.out _).mono ?_; rintro e w4 ⟨rfl, hy⟩) | (go_at_call 301; refine (PD.out _).mono ?_; rintro e w4 ⟨rfl, hy⟩)); go_wp2_with fail; (refine hK.out _ _ (by first | assumption | exact Ext.trans (by assumption) hy | exact Res.ext (by assumption) hy | exact ResB.ext (by assumption) hy | exact ResC.ext (by assumption) hy | (go_split_ands; (repeat' apply And.intro) <;> exact Ext.cellOf hy (by assumption))) (fun hHeld => ?_)); clear hK K; (try simp only [Act.put, Ord.a, Ord.b, Ord.c]))
  (refine wpAnyH_ready (rs := [7]) (by kernel_rfl) (by simp) ?_; refine AllReadyH.cons rfl (fun K hK => ?_) AllReadyH.nil; go_simp; (first | (go_at_call 243; refine (PV.out _).mono ?_; rintro e w4 ⟨rfl, hy⟩) | (go_at_call 301; refine (PD.out _).mono ?_; rintro e w4 ⟨rfl, hy⟩)); go_wp2_with fail; (refine hK.out _ _ (by first | assumption | exact Ext.trans (by assumption) hy | exact Res.ext (by assumption) hy | exact ResB.ext (by assumption) hy | exact ResC.ext (by assumption) hy | (go_split_ands; (repeat' apply And.intro) <;> exact Ext.cellOf hy (by assumption))) (fun hHeld => ?_)); clear hK K; (try simp only [Act.put, Ord.a, Ord.b, Ord.c]))
  refine Ord.K 8 4 ?_
  refine wpAnyH_done (by kernel_rfl) ?_ _
  go_wp2
  go_ret
  exact ⟨rfl, hX.trans (by assumption)⟩
theorem ca_no {a b c d n p q : Int} (h : ¬ alH a b c d p q < 0) : caB a b c d n p q = false := by unfold caB; rw [decide_eq_false h]; rfl
theorem ca_yes {a b c d n p q : Int} (h : alH a b c d p q < 0) : caB a b c d n p q = decide (rt (n * n * (c * c + d * d)) < -alH a b c d p q) := by unfold caB; rw [decide_eq_true h]; rfl
theorem ca_cmp {a b c d n p q : Int} (h : alH a b c d p q < 0) : caB a b c d n p q = decide (0 < cmpZ (-alH a b c d p q * -alH a b c d p q) (n * n * (c * c + d * d))) := by
  have hK : 0 ≤ n * n * (c * c + d * d) := Int.mul_nonneg (Lth.sq_nn n) (by have := Lth.sq_nn c; have := Lth.sq_nn d; omega)
  have hl := Win.le_rt (x := -alH a b c d p q) (K := n * n * (c * c + d * d)) (by omega) hK
  rw [ca_yes h]
  have e1 : decide (rt (n * n * (c * c + d * d)) < -alH a b c d p q) = !decide (-alH a b c d p q ≤ rt (n * n * (c * c + d * d))) := by
    by_cases g : -alH a b c d p q ≤ rt (n * n * (c * c + d * d))
    · rw [decide_eq_true g, decide_eq_false (by omega)]; rfl
    · rw [decide_eq_false g, decide_eq_true (by omega)]; rfl
  rw [e1, hl, ← Win.cmp_le]
  by_cases g : cmpZ (-alH a b c d p q * -alH a b c d p q) (n * n * (c * c + d * d)) ≤ 0
  · rw [decide_eq_true g, decide_eq_false (by omega)]; rfl
  · rw [decide_eq_false g, decide_eq_true (by omega)]; rfl
set_option maxHeartbeats 1000000 in
theorem hasAstern_any (a b c d n p q u v m : Int) (w : World) (h : hlB a b c d n = true) (hp : Co p) (hq : Co q) : Calls Tryz.prog 281 #[Hv a b c d n, Hv p q u v m] w fun e w' => e = .returned (.bool (caB a b c d n p q)) ∧ Ext w w' := by
  obtain ⟨A1, A2⟩ := al_bd h hp hq
  have PA := Lib.hid (fun w => alongI_any a b c d n p q u v m w h hp hq)
  obtain ⟨⟨ha, hb⟩, ⟨hc, hd, hn⟩, n1, n2⟩ := hlB_yes h
  have PQ := Lib.hid (fun w => squareLength_any c d w hc hd)
  obtain ⟨s0, s1⟩ := sqs_bd hc hd
  have N0 : 0 ≤ n * n ∧ n * n ≤ 1000000 := by
    have := mul_bd 1000 1000 (x := n) (y := n) ⟨by omega, by omega⟩ ⟨by omega, by omega⟩
    have := Lth.sq_nn n
    simp only [Int.reduceMul, Int.reduceNeg] at *
    omega
  have HN := Lib.hid (fun g => ca_no (a := a) (b := b) (c := c) (d := d) (n := n) (p := p) (q := q) g)
  have HY := Lib.hid (fun g => ca_cmp (a := a) (b := b) (c := c) (d := d) (n := n) (p := p) (q := q) g)
  obtain ⟨K, hK⟩ : ∃ K, K = caB a b c d n p q := ⟨_, rfl⟩
  obtain ⟨L, hL⟩ : ∃ L, L = alH a b c d p q := ⟨_, rfl⟩
  obtain ⟨Q, hQ⟩ : ∃ Q, Q = c * c + d * d := ⟨_, rfl⟩
  rw [← hK, ← hL] at HN
  rw [← hK, ← hL, ← hQ] at HY
  rw [← hK]
  rw [← hL] at PA A1 A2
  rw [← hQ] at PQ s0 s1
  clear hK hL hQ hn h hp hq ha hb hc hd
  have T0 : IntKind.i64.wrap (-L) = -L := IntWalk.i64_in _ (by omega)
  have T1 : IntKind.i64.wrap (n * n) = n * n := IntWalk.i64_in _ (by omega)
  obtain ⟨W0, hW0⟩ : ∃ W0, W0 = (w.alloc (.cells #[.int .i64 a, .int .i64 b, .int .i64 c, .int .i64 d, .int .i64 n] 62)).alloc (.cells #[.int .i64 p, .int .i64 q, .int .i64 u, .int .i64 v, .int .i64 m] 62) := ⟨_, rfl⟩
  have hX : Ext w W0 := hW0 ▸ (((Ext.refl w).alloc _).alloc _)
  have hs0 : W0.heap.size = w.heap.size + 1 + 1 := by rw [hW0]; simp
  have e00 : ∀ w', (Ext W0) w' → w'.cell? ⟨w.heap.size, 0, none⟩ = some (.int .i64 a) := fun w' h => h.cellOf (by rw [hW0]; exact ((Ext.refl _).alloc _).cellOf (boxed 0 rfl (by simp)))
  have e01 : ∀ w', (Ext W0) w' → w'.cell? ⟨w.heap.size, 1, none⟩ = some (.int .i64 b) := fun w' h => h.cellOf (by rw [hW0]; exact ((Ext.refl _).alloc _).cellOf (boxed 1 rfl (by simp)))
  have e02 : ∀ w', (Ext W0) w' → w'.cell? ⟨w.heap.size, 2, none⟩ = some (.int .i64 c) := fun w' h => h.cellOf (by rw [hW0]; exact ((Ext.refl _).alloc _).cellOf (boxed 2 rfl (by simp)))
  have e03 : ∀ w', (Ext W0) w' → w'.cell? ⟨w.heap.size, 3, none⟩ = some (.int .i64 d) := fun w' h => h.cellOf (by rw [hW0]; exact ((Ext.refl _).alloc _).cellOf (boxed 3 rfl (by simp)))
  have e04 : ∀ w', (Ext W0) w' → w'.cell? ⟨w.heap.size, 4, none⟩ = some (.int .i64 n) := fun w' h => h.cellOf (by rw [hW0]; exact ((Ext.refl _).alloc _).cellOf (boxed 4 rfl (by simp)))
  have e10 : ∀ w', (Ext W0) w' → w'.cell? ⟨w.heap.size + 1, 0, none⟩ = some (.int .i64 p) := fun w' h => h.cellOf (by rw [hW0]; exact boxed 0 rfl (by simp))
  have e11 : ∀ w', (Ext W0) w' → w'.cell? ⟨w.heap.size + 1, 1, none⟩ = some (.int .i64 q) := fun w' h => h.cellOf (by rw [hW0]; exact boxed 1 rfl (by simp))
  have e12 : ∀ w', (Ext W0) w' → w'.cell? ⟨w.heap.size + 1, 2, none⟩ = some (.int .i64 u) := fun w' h => h.cellOf (by rw [hW0]; exact boxed 2 rfl (by simp))
  have e13 : ∀ w', (Ext W0) w' → w'.cell? ⟨w.heap.size + 1, 3, none⟩ = some (.int .i64 v) := fun w' h => h.cellOf (by rw [hW0]; exact boxed 3 rfl (by simp))
  have e14 : ∀ w', (Ext W0) w' → w'.cell? ⟨w.heap.size + 1, 4, none⟩ = some (.int .i64 m) := fun w' h => h.cellOf (by rw [hW0]; exact boxed 4 rfl (by simp))
  go_enter Tryz.func281, Tryz.ntmps281
  go_wp2_with fail
  rw [← hW0]
  clear hW0
  refine (PA.out _).mono ?_
  rintro e w1 ⟨rfl, hz⟩
  by_cases hl : L < 0
  · have H := Lib.hid (HY.out hl)
    have G : (0 < -L) := by omega
    have PC := Lib.hid (fun w => compareProducts_int (-L) (-L) (n * n) Q w (by omega) (by omega) (by omega) (by omega) N0.1 (by omega) s0 (by omega))
    clear HY HN A1 A2 N0 s0 s1
    obtain ⟨Z, hZ⟩ : ∃ Z, Z = cmpZ (-L * -L) (n * n * Q) := ⟨_, rfl⟩
    rw [← hZ] at PC H
    clear hZ
    go_wp2_with fail
    refine wp_region_held_drew (S := (fun w' => Ext W0 w')) (by kernel_rfl) (by (try dsimp only); first | go_keep | exact (Ext.refl _).drew | exact Res.new2.drew | exact Res.new4.drew | exact ResB.drew (by assumption) | exact ResC.drew (by assumption) | assumption | exact Ext.drew (by assumption) | exact Res.drew (by assumption)) (fun hHeld => ?_)
    refine Ord.K 0 10 ?_
    refine Ord.K 1 11 ?_
    refine Ord.K 2 12 ?_
    (first | (refine Ord.s 3 13 ?_ ?_; rfl; (try simp only [Act.put, Ord.a, Ord.b, Ord.c])) | refine Ord.K 3 13 ?_)
    (first | (refine Ord.s 4 14 ?_ ?_; rfl; (try simp only [Act.put, Ord.a, Ord.b, Ord.c])) | refine Ord.K 4 14 ?_)
    (first | (refine Ord.s 5 15 ?_ ?_; rfl; (try simp only [Act.put, Ord.a, Ord.b, Ord.c])) | refine Ord.K 5 15 ?_)
    (first | (refine Ord.s 6 16 ?_ ?_; rfl; (try simp only [Act.put, Ord.a, Ord.b, Ord.c])) | refine Ord.K 6 16 ?_)
    (first | (refine Ord.s 7 17 ?_ ?_; rfl; (try simp only [Act.put, Ord.a, Ord.b, Ord.c])) | refine Ord.K 7 17 ?_)
    (first | (refine Ord.s 8 18 ?_ ?_; rfl; (try simp only [Act.put, Ord.a, Ord.b, Ord.c])) | refine Ord.K 8 18 ?_)
    (first | (refine Ord.s 9 19 ?_ ?_; rfl; (try simp only [Act.put, Ord.a, Ord.b, Ord.c])) | refine Ord.K 9 19 ?_)
    (first | (refine Ord.s 10 20 ?_ ?_; rfl; (try simp only [Act.put, Ord.a, Ord.b, Ord.c])) | refine Ord.K 10 20 ?_)
    (first | (refine Ord.s 11 21 ?_ ?_; rfl; (try simp only [Act.put, Ord.a, Ord.b, Ord.c])) | refine Ord.K 11 21 ?_)
    (first | (refine Ord.s 12 22 ?_ ?_; rfl; (try simp only [Act.put, Ord.a, Ord.b, Ord.c])) | (refine wpAnyH_ready (rs := [12]) (by kernel_rfl) (by simp) ?_; refine AllReadyH.cons rfl (fun K hK => ?_) AllReadyH.nil; go_simp; (first | (go_at_call 261; refine (PQ.out _).mono ?_; rintro e w4 ⟨rfl, hy⟩) | (go_at_call 264; refine (PC.out _).mono ?_; rintro e w4 ⟨rfl, hy⟩)); go_wp2_with fail; (refine hK.out _ _ (by first | assumption | exact Ext.trans (by assumption) hy | exact Res.ext (by assumption) hy | exact ResB.ext (by assumption) hy | exact ResC.ext (by assumption) hy | (go_split_ands; (repeat' apply And.intro) <;> exact Ext.cellOf hy (by assumption))) (fun hHeld => ?_)); clear hK K; (try simp only [Act.put, Ord.a, Ord.b, Ord.c])))
    (first | (refine Ord.s 13 23 ?_ ?_; rfl; (try simp only [Act.put, Ord.a, Ord.b, Ord.c])) | (refine wpAnyH_ready (rs := [13]) (by kernel_rfl) (by simp) ?_; refine AllReadyH.cons rfl (fun K hK => ?_) AllReadyH.nil; go_simp; (first | (go_at_call 261; refine (PQ.out _).mono ?_; rintro e w4 ⟨rfl, hy⟩) | (go_at_call 264; refine (PC.out _).mono ?_; rintro e w4 ⟨rfl, hy⟩)); go_wp2_with fail; (refine hK.out _ _ (by first | assumption | exact Ext.trans (by assumption) hy | exact Res.ext (by assumption) hy | exact ResB.ext (by assumption) hy | exact ResC.ext (by assumption) hy | (go_split_ands; (repeat' apply And.intro) <;> exact Ext.cellOf hy (by assumption))) (fun hHeld => ?_)); clear hK K; (try simp only [Act.put, Ord.a, Ord.b, Ord.c])))
    (first | (refine Ord.s 14 24 ?_ ?_; rfl; (try simp only [Act.put, Ord.a, Ord.b, Ord.c])) | refine Ord.K 14 24 ?_)
    refine Ord.K 15 25 ?_
    refine Ord.K 16 4 ?_
    refine wpAnyH_done (by kernel_rfl) ?_ _
    go_wp2
    go_ret
    exact ⟨ret_bool H.out, hX.trans (by assumption)⟩
  · have H := Lib.hid (HN.out (by omega))
    have G1 : decide (0 < -L) = false := decide_eq_false (by omega)
    have G2 : decide (L < 0) = false := decide_eq_false hl
    clear hl
    clear HY HN A1 A2 N0 s0 s1
    go_wp2_with fail
    refine wp_region_held_drew (S := (fun w' => Ext W0 w')) (by kernel_rfl) (by (try dsimp only); first | go_keep | exact (Ext.refl _).drew | exact Res.new2.drew | exact Res.new4.drew | exact ResB.drew (by assumption) | exact ResC.drew (by assumption) | assumption | exact Ext.drew (by assumption) | exact Res.drew (by assumption)) (fun hHeld => ?_)
    refine Ord.K 0 10 ?_
    refine Ord.K 1 11 ?_
    refine Ord.K 2 12 ?_
    (first | (refine Ord.s 3 13 ?_ ?_; rfl; (try simp only [Act.put, Ord.a, Ord.b, Ord.c])) | refine Ord.K 3 13 ?_)
    (first | (refine Ord.s 4 14 ?_ ?_; rfl; (try simp only [Act.put, Ord.a, Ord.b, Ord.c])) | refine Ord.K 4 14 ?_)
    (first | (refine Ord.s 5 15 ?_ ?_; rfl; (try simp only [Act.put, Ord.a, Ord.b, Ord.c])) | refine Ord.K 5 15 ?_)
    (first | (refine Ord.s 6 16 ?_ ?_; rfl; (try simp only [Act.put, Ord.a, Ord.b, Ord.c])) | refine Ord.K 6 16 ?_)
    (first | (refine Ord.s 7 17 ?_ ?_; rfl; (try simp only [Act.put, Ord.a, Ord.b, Ord.c])) | refine Ord.K 7 17 ?_)
    (first | (refine Ord.s 8 18 ?_ ?_; rfl; (try simp only [Act.put, Ord.a, Ord.b, Ord.c])) | refine Ord.K 8 18 ?_)
    (first | (refine Ord.s 9 19 ?_ ?_; rfl; (try simp only [Act.put, Ord.a, Ord.b, Ord.c])) | refine Ord.K 9 19 ?_)
    (first | (refine Ord.s 10 20 ?_ ?_; rfl; (try simp only [Act.put, Ord.a, Ord.b, Ord.c])) | refine Ord.K 10 20 ?_)
    (first | (refine Ord.s 11 21 ?_ ?_; rfl; (try simp only [Act.put, Ord.a, Ord.b, Ord.c])) | refine Ord.K 11 21 ?_)
    (first | (refine Ord.s 12 22 ?_ ?_; rfl; (try simp only [Act.put, Ord.a, Ord.b, Ord.c])) | (refine wpAnyH_ready (rs := [12]) (by kernel_rfl) (by simp) ?_; refine AllReadyH.cons rfl (fun K hK => ?_) AllReadyH.nil; go_simp; (first | (go_at_call 261; refine (PQ.out _).mono ?_; rintro e w4 ⟨rfl, hy⟩)); go_wp2_with fail; (refine hK.out _ _ (by first | assumption | exact Ext.trans (by assumption) hy | exact Res.ext (by assumption) hy | exact ResB.ext (by assumption) hy | exact ResC.ext (by assumption) hy | (go_split_ands; (repeat' apply And.intro) <;> exact Ext.cellOf hy (by assumption))) (fun hHeld => ?_)); clear hK K; (try simp only [Act.put, Ord.a, Ord.b, Ord.c])))
    (first | (refine Ord.s 13 23 ?_ ?_; rfl; (try simp only [Act.put, Ord.a, Ord.b, Ord.c])) | (refine wpAnyH_ready (rs := [13]) (by kernel_rfl) (by simp) ?_; refine AllReadyH.cons rfl (fun K hK => ?_) AllReadyH.nil; go_simp; (first | (go_at_call 261; refine (PQ.out _).mono ?_; rintro e w4 ⟨rfl, hy⟩)); go_wp2_with fail; (refine hK.out _ _ (by first | assumption | exact Ext.trans (by assumption) hy | exact Res.ext (by assumption) hy | exact ResB.ext (by assumption) hy | exact ResC.ext (by assumption) hy | (go_split_ands; (repeat' apply And.intro) <;> exact Ext.cellOf hy (by assumption))) (fun hHeld => ?_)); clear hK K; (try simp only [Act.put, Ord.a, Ord.b, Ord.c])))
    (first | (refine Ord.s 14 24 ?_ ?_; rfl; (try simp only [Act.put, Ord.a, Ord.b, Ord.c])) | refine Ord.K 14 24 ?_)
    refine Ord.K 15 25 ?_
    refine Ord.K 16 4 ?_
    refine wpAnyH_done (by kernel_rfl) ?_ _
    go_wp2
    go_ret
    exact ⟨ret_bool H.out, hX.trans (by assumption)⟩
end Go.Proofs.YtmlojndkpnhalaaGreat.Hul
namespace Go.Proofs.YtmlojndkpnhalaaGreat.Hul
open Go.ChangeShapes Go.WideShapes Go.ChangeAt Go.RowKit
open Go.Proofs.YtmlojndkpnhalaaGreat.Num Go.Proofs.YtmlojndkpnhalaaGreat.Kit Go.Proofs.YtmlojndkpnhalaaGreat.Pts Go.Proofs.YtmlojndkpnhalaaGreat.Seg Go.Proofs.YtmlojndkpnhalaaGreat.Wnd Go.Proofs.YtmlojndkpnhalaaGreat.Rt Go.Proofs.YtmlojndkpnhalaaGreat.Root
open Go.Proofs.YtmlojndkpnhalaaGreat.Lth (ln2 ln2_pos sqs_bd)
set_option linter.unusedVariables false
set_option linter.unusedSimpArgs false
set_option maxHeartbeats 1000000 in
theorem alongS_any (a b c d n p q u v m : Int) (w : World) (h : hlB a b c d n = true) (hp : Co p) (hq : Co q) : Calls Tryz.prog 270 #[Hv a b c d n, Hv p q u v m] w fun e w' => e = .returned (.int .i64 (alH a b c d p q)) ∧ Ext w w' := by
  obtain ⟨⟨ha, hb⟩, ⟨hc, hd, hn⟩, n1, n2⟩ := hlB_yes h
  unfold Co at ha hb hp hq
  have PV := Lib.hid (fun w => minus_any p q a b w hp hq ha hb)
  have PD := Lib.hid (fun w => show Calls Tryz.prog 133 #[Pt (p - a) (q - b), Pt c d] w (fun e w' => e = .returned (.int .i64 (alH a b c d p q)) ∧ Ext w w') from dot_any (p - a) (q - b) c d w (by omega) (by omega) hc hd)
  clear hn
  obtain ⟨W0, hW0⟩ : ∃ W0, W0 = (w.alloc (.cells #[.int .i64 a, .int .i64 b, .int .i64 c, .int .i64 d, .int .i64 n] 62)).alloc (.cells #[.int .i64 p, .int .i64 q, .int .i64 u, .int .i64 v, .int .i64 m] 62) := ⟨_, rfl⟩
  have hX : Ext w W0 := hW0 ▸ (((Ext.refl w).alloc _).alloc _)
  have hs0 : W0.heap.size = w.heap.size + 1 + 1 := by rw [hW0]; simp
  have e00 : ∀ w', (Ext W0) w' → w'.cell? ⟨w.heap.size, 0, none⟩ = some (.int .i64 a) := fun w' h => h.cellOf (by rw [hW0]; exact ((Ext.refl _).alloc _).cellOf (boxed 0 rfl (by simp)))
  have e01 : ∀ w', (Ext W0) w' → w'.cell? ⟨w.heap.size, 1, none⟩ = some (.int .i64 b) := fun w' h => h.cellOf (by rw [hW0]; exact ((Ext.refl _).alloc _).cellOf (boxed 1 rfl (by simp)))
  have e02 : ∀ w', (Ext W0) w' → w'.cell? ⟨w.heap.size, 2, none⟩ = some (.int .i64 c) := fun w' h => h.cellOf (by rw [hW0]; exact ((Ext.refl _).alloc _).cellOf (boxed 2 rfl (by simp)))
  have e03 : ∀ w', (Ext W0) w' → w'.cell? ⟨w.heap.size, 3, none⟩ = some (.int .i64 d) := fun w' h => h.cellOf (by rw [hW0]; exact ((Ext.refl _).alloc _).cellOf (boxed 3 rfl (by simp)))
  have e04 : ∀ w', (Ext W0) w' → w'.cell? ⟨w.heap.size, 4, none⟩ = some (.int .i64 n) := fun w' h => h.cellOf (by rw [hW0]; exact ((Ext.refl _).alloc _).cellOf (boxed 4 rfl (by simp)))
  have e10 : ∀ w', (Ext W0) w' → w'.cell? ⟨w.heap.size + 1, 0, none⟩ = some (.int .i64 p) := fun w' h => h.cellOf (by rw [hW0]; exact boxed 0 rfl (by simp))
  have e11 : ∀ w', (Ext W0) w' → w'.cell? ⟨w.heap.size + 1, 1, none⟩ = some (.int .i64 q) := fun w' h => h.cellOf (by rw [hW0]; exact boxed 1 rfl (by simp))
  have e12 : ∀ w', (Ext W0) w' → w'.cell? ⟨w.heap.size + 1, 2, none⟩ = some (.int .i64 u) := fun w' h => h.cellOf (by rw [hW0]; exact boxed 2 rfl (by simp))
  have e13 : ∀ w', (Ext W0) w' → w'.cell? ⟨w.heap.size + 1, 3, none⟩ = some (.int .i64 v) := fun w' h => h.cellOf (by rw [hW0]; exact boxed 3 rfl (by simp))
  have e14 : ∀ w', (Ext W0) w' → w'.cell? ⟨w.heap.size + 1, 4, none⟩ = some (.int .i64 m) := fun w' h => h.cellOf (by rw [hW0]; exact boxed 4 rfl (by simp))
  go_enter Tryz.func270, Tryz.ntmps270
  go_wp2_with fail
  rw [← hW0]
  clear hW0
  have hr := Ext.refl W0
  refine wp_region_held_drew (S := (fun w' => Ext W0 w')) (by kernel_rfl) (by (try dsimp only); first | go_keep | exact (Ext.refl _).drew | exact Res.new2.drew | exact Res.new4.drew | exact ResB.drew (by assumption) | exact ResC.drew (by assumption) | assumption | exact Ext.drew (by assumption) | exact Res.drew (by assumption)) (fun hHeld => ?_)
  refine Ord.K 0 5 ?_
  refine Ord.K 1 6 ?_
  refine Ord.K 2 7 ?_
  refine Ord.K 3 8 ?_
  refine Ord.K 5 10 ?_
  refine Ord.K 6 11 ?_
  (refine wpAnyH_ready (rs := [4]) (by kernel_rfl) (by simp) ?_; refine AllReadyH.cons rfl (fun K hK => ?_) AllReadyH.nil; go_simp; (first | (go_at_call 131; refine (PV.out _).mono ?_; rintro e w4 ⟨rfl, hy⟩) | (go_at_call 133; refine (PD.out _).mono ?_; rintro e w4 ⟨rfl, hy⟩)); go_wp2_with fail; (refine hK.out _ _ (by first | assumption | exact Ext.trans (by assumption) hy | exact Res.ext (by assumption) hy | exact ResB.ext (by assumption) hy | exact ResC.ext (by assumption) hy | (go_split_ands; (repeat' apply And.intro) <;> exact Ext.cellOf hy (by assumption))) (fun hHeld => ?_)); clear hK K; (try simp only [Act.put, Ord.a, Ord.b, Ord.c]))
  (refine wpAnyH_ready (rs := [7]) (by kernel_rfl) (by simp) ?_; refine AllReadyH.cons rfl (fun K hK => ?_) AllReadyH.nil; go_simp; (first | (go_at_call 131; refine (PV.out _).mono ?_; rintro e w4 ⟨rfl, hy⟩) | (go_at_call 133; refine (PD.out _).mono ?_; rintro e w4 ⟨rfl, hy⟩)); go_wp2_with fail; (refine hK.out _ _ (by first | assumption | exact Ext.trans (by assumption) hy | exact Res.ext (by assumption) hy | exact ResB.ext (by assumption) hy | exact ResC.ext (by assumption) hy | (go_split_ands; (repeat' apply And.intro) <;> exact Ext.cellOf hy (by assumption))) (fun hHeld => ?_)); clear hK K; (try simp only [Act.put, Ord.a, Ord.b, Ord.c]))
  refine Ord.K 8 4 ?_
  refine wpAnyH_done (by kernel_rfl) ?_ _
  go_wp2
  go_ret
  exact ⟨rfl, hX.trans (by assumption)⟩
set_option maxHeartbeats 1000000 in
theorem clearS_any (a b c d n p q u v m : Int) (w : World) (h : hlB a b c d n = true) (hp : Co p) (hq : Co q) : Calls Tryz.prog 217 #[Hv a b c d n, Hv p q u v m] w fun e w' => e = .returned (.bool (caB a b c d n p q)) ∧ Ext w w' := by
  obtain ⟨A1, A2⟩ := al_bd h hp hq
  have PA := Lib.hid (fun w => alongS_any a b c d n p q u v m w h hp hq)
  obtain ⟨⟨ha, hb⟩, ⟨hc, hd, hn⟩, n1, n2⟩ := hlB_yes h
  have PQ := Lib.hid (fun w => dot_any c d c d w hc hd hc hd)
  obtain ⟨s0, s1⟩ := sqs_bd hc hd
  have PR := Lib.hid (fun w => Wid.rootOfS_any n (c * c + d * d) w (by omega) (by omega) s0 s1)
  have HN := Lib.hid (fun g => ca_no (a := a) (b := b) (c := c) (d := d) (n := n) (p := p) (q := q) g)
  have HY := Lib.hid (fun g => ca_yes (a := a) (b := b) (c := c) (d := d) (n := n) (p := p) (q := q) g)
  obtain ⟨K, hK⟩ : ∃ K, K = caB a b c d n p q := ⟨_, rfl⟩
  obtain ⟨L, hL⟩ : ∃ L, L = alH a b c d p q := ⟨_, rfl⟩
  obtain ⟨Q, hQ⟩ : ∃ Q, Q = c * c + d * d := ⟨_, rfl⟩
  rw [← hK, ← hL] at HN
  rw [← hK, ← hL, ← hQ] at HY
  rw [← hK]
  rw [← hL] at PA A1 A2
  rw [← hQ] at PQ PR s0 s1
  obtain ⟨Z, hZ⟩ : ∃ Z, Z = rt (n * n * Q) := ⟨_, rfl⟩
  rw [← hZ] at PR HY
  clear hK hL hQ hn h hp hq ha hb hc hd hZ
  have T0 : IntKind.i64.wrap (-L) = -L := IntWalk.i64_in _ (by omega)
  obtain ⟨W0, hW0⟩ : ∃ W0, W0 = (w.alloc (.cells #[.int .i64 a, .int .i64 b, .int .i64 c, .int .i64 d, .int .i64 n] 62)).alloc (.cells #[.int .i64 p, .int .i64 q, .int .i64 u, .int .i64 v, .int .i64 m] 62) := ⟨_, rfl⟩
  have hX : Ext w W0 := hW0 ▸ (((Ext.refl w).alloc _).alloc _)
  have hs0 : W0.heap.size = w.heap.size + 1 + 1 := by rw [hW0]; simp
  have e00 : ∀ w', (Ext W0) w' → w'.cell? ⟨w.heap.size, 0, none⟩ = some (.int .i64 a) := fun w' h => h.cellOf (by rw [hW0]; exact ((Ext.refl _).alloc _).cellOf (boxed 0 rfl (by simp)))
  have e01 : ∀ w', (Ext W0) w' → w'.cell? ⟨w.heap.size, 1, none⟩ = some (.int .i64 b) := fun w' h => h.cellOf (by rw [hW0]; exact ((Ext.refl _).alloc _).cellOf (boxed 1 rfl (by simp)))
  have e02 : ∀ w', (Ext W0) w' → w'.cell? ⟨w.heap.size, 2, none⟩ = some (.int .i64 c) := fun w' h => h.cellOf (by rw [hW0]; exact ((Ext.refl _).alloc _).cellOf (boxed 2 rfl (by simp)))
  have e03 : ∀ w', (Ext W0) w' → w'.cell? ⟨w.heap.size, 3, none⟩ = some (.int .i64 d) := fun w' h => h.cellOf (by rw [hW0]; exact ((Ext.refl _).alloc _).cellOf (boxed 3 rfl (by simp)))
  have e04 : ∀ w', (Ext W0) w' → w'.cell? ⟨w.heap.size, 4, none⟩ = some (.int .i64 n) := fun w' h => h.cellOf (by rw [hW0]; exact ((Ext.refl _).alloc _).cellOf (boxed 4 rfl (by simp)))
  have e10 : ∀ w', (Ext W0) w' → w'.cell? ⟨w.heap.size + 1, 0, none⟩ = some (.int .i64 p) := fun w' h => h.cellOf (by rw [hW0]; exact boxed 0 rfl (by simp))
  have e11 : ∀ w', (Ext W0) w' → w'.cell? ⟨w.heap.size + 1, 1, none⟩ = some (.int .i64 q) := fun w' h => h.cellOf (by rw [hW0]; exact boxed 1 rfl (by simp))
  have e12 : ∀ w', (Ext W0) w' → w'.cell? ⟨w.heap.size + 1, 2, none⟩ = some (.int .i64 u) := fun w' h => h.cellOf (by rw [hW0]; exact boxed 2 rfl (by simp))
  have e13 : ∀ w', (Ext W0) w' → w'.cell? ⟨w.heap.size + 1, 3, none⟩ = some (.int .i64 v) := fun w' h => h.cellOf (by rw [hW0]; exact boxed 3 rfl (by simp))
  have e14 : ∀ w', (Ext W0) w' → w'.cell? ⟨w.heap.size + 1, 4, none⟩ = some (.int .i64 m) := fun w' h => h.cellOf (by rw [hW0]; exact boxed 4 rfl (by simp))
  go_enter Tryz.func217, Tryz.ntmps217
  go_wp2_with fail
  rw [← hW0]
  clear hW0
  refine (PA.out _).mono ?_
  rintro e w1 ⟨rfl, hz⟩
  by_cases hl : L < 0
  · have H := Lib.hid (HY.out hl)
    clear HY HN A1 A2 s0 s1
    go_wp2_with fail
    refine wp_region_held_drew (S := (fun w' => Ext W0 w')) (by kernel_rfl) (by (try dsimp only); first | go_keep | exact (Ext.refl _).drew | exact Res.new2.drew | exact Res.new4.drew | exact ResB.drew (by assumption) | exact ResC.drew (by assumption) | assumption | exact Ext.drew (by assumption) | exact Res.drew (by assumption)) (fun hHeld => ?_)
    refine Ord.K 0 9 ?_
    refine Ord.K 1 10 ?_
    refine Ord.K 2 11 ?_
    (first | (refine Ord.s 3 12 ?_ ?_; rfl; (try simp only [Act.put, Ord.a, Ord.b, Ord.c])) | refine Ord.K 3 12 ?_)
    (first | (refine Ord.s 4 13 ?_ ?_; rfl; (try simp only [Act.put, Ord.a, Ord.b, Ord.c])) | refine Ord.K 4 13 ?_)
    (first | (refine Ord.s 5 14 ?_ ?_; rfl; (try simp only [Act.put, Ord.a, Ord.b, Ord.c])) | refine Ord.K 5 14 ?_)
    (first | (refine Ord.s 6 15 ?_ ?_; rfl; (try simp only [Act.put, Ord.a, Ord.b, Ord.c])) | refine Ord.K 6 15 ?_)
    (first | (refine Ord.s 7 16 ?_ ?_; rfl; (try simp only [Act.put, Ord.a, Ord.b, Ord.c])) | refine Ord.K 7 16 ?_)
    (first | (refine Ord.s 8 17 ?_ ?_; rfl; (try simp only [Act.put, Ord.a, Ord.b, Ord.c])) | refine Ord.K 8 17 ?_)
    (first | (refine Ord.s 9 18 ?_ ?_; rfl; (try simp only [Act.put, Ord.a, Ord.b, Ord.c])) | refine Ord.K 9 18 ?_)
    (first | (refine Ord.s 10 19 ?_ ?_; rfl; (try simp only [Act.put, Ord.a, Ord.b, Ord.c])) | refine Ord.K 10 19 ?_)
    (first | (refine Ord.s 11 20 ?_ ?_; rfl; (try simp only [Act.put, Ord.a, Ord.b, Ord.c])) | (refine wpAnyH_ready (rs := [11]) (by kernel_rfl) (by simp) ?_; refine AllReadyH.cons rfl (fun K hK => ?_) AllReadyH.nil; go_simp; (first | (go_at_call 133; refine (PQ.out _).mono ?_; rintro e w4 ⟨rfl, hy⟩) | (go_at_call 260; refine (PR.out _).mono ?_; rintro e w4 ⟨rfl, rfl⟩)); go_wp2_with fail; (refine hK.out _ _ (by first | assumption | exact Ext.trans (by assumption) hy | exact Res.ext (by assumption) hy | exact ResB.ext (by assumption) hy | exact ResC.ext (by assumption) hy | (go_split_ands; (repeat' apply And.intro) <;> exact Ext.cellOf hy (by assumption))) (fun hHeld => ?_)); clear hK K; (try simp only [Act.put, Ord.a, Ord.b, Ord.c])))
    (first | (refine Ord.s 12 21 ?_ ?_; rfl; (try simp only [Act.put, Ord.a, Ord.b, Ord.c])) | (refine wpAnyH_ready (rs := [12]) (by kernel_rfl) (by simp) ?_; refine AllReadyH.cons rfl (fun K hK => ?_) AllReadyH.nil; go_simp; (first | (go_at_call 133; refine (PQ.out _).mono ?_; rintro e w4 ⟨rfl, hy⟩) | (go_at_call 260; refine (PR.out _).mono ?_; rintro e w4 ⟨rfl, rfl⟩)); go_wp2_with fail; (refine hK.out _ _ (by first | assumption | exact Ext.trans (by assumption) hy | exact Res.ext (by assumption) hy | exact ResB.ext (by assumption) hy | exact ResC.ext (by assumption) hy | (go_split_ands; (repeat' apply And.intro) <;> exact Ext.cellOf hy (by assumption))) (fun hHeld => ?_)); clear hK K; (try simp only [Act.put, Ord.a, Ord.b, Ord.c])))
    (first | (refine Ord.s 13 22 ?_ ?_; rfl; (try simp only [Act.put, Ord.a, Ord.b, Ord.c])) | refine Ord.K 13 22 ?_)
    refine Ord.K 14 23 ?_
    refine Ord.K 15 4 ?_
    refine wpAnyH_done (by kernel_rfl) ?_ _
    go_wp2
    go_ret
    exact ⟨ret_bool H.out, hX.trans (by assumption)⟩
  · have H := Lib.hid (HN.out (by omega))
    have G2 : decide (L < 0) = false := decide_eq_false hl
    clear hl HY HN A1 A2 s0 s1
    go_wp2_with fail
    refine wp_region_held_drew (S := (fun w' => Ext W0 w')) (by kernel_rfl) (by (try dsimp only); first | go_keep | exact (Ext.refl _).drew | exact Res.new2.drew | exact Res.new4.drew | exact ResB.drew (by assumption) | exact ResC.drew (by assumption) | assumption | exact Ext.drew (by assumption) | exact Res.drew (by assumption)) (fun hHeld => ?_)
    refine Ord.K 0 9 ?_
    refine Ord.K 1 10 ?_
    refine Ord.K 2 11 ?_
    (first | (refine Ord.s 3 12 ?_ ?_; rfl; (try simp only [Act.put, Ord.a, Ord.b, Ord.c])) | refine Ord.K 3 12 ?_)
    (first | (refine Ord.s 4 13 ?_ ?_; rfl; (try simp only [Act.put, Ord.a, Ord.b, Ord.c])) | refine Ord.K 4 13 ?_)
    (first | (refine Ord.s 5 14 ?_ ?_; rfl; (try simp only [Act.put, Ord.a, Ord.b, Ord.c])) | refine Ord.K 5 14 ?_)
    (first | (refine Ord.s 6 15 ?_ ?_; rfl; (try simp only [Act.put, Ord.a, Ord.b, Ord.c])) | refine Ord.K 6 15 ?_)
    (first | (refine Ord.s 7 16 ?_ ?_; rfl; (try simp only [Act.put, Ord.a, Ord.b, Ord.c])) | refine Ord.K 7 16 ?_)
    (first | (refine Ord.s 8 17 ?_ ?_; rfl; (try simp only [Act.put, Ord.a, Ord.b, Ord.c])) | refine Ord.K 8 17 ?_)
    (first | (refine Ord.s 9 18 ?_ ?_; rfl; (try simp only [Act.put, Ord.a, Ord.b, Ord.c])) | refine Ord.K 9 18 ?_)
    (first | (refine Ord.s 10 19 ?_ ?_; rfl; (try simp only [Act.put, Ord.a, Ord.b, Ord.c])) | refine Ord.K 10 19 ?_)
    (first | (refine Ord.s 11 20 ?_ ?_; rfl; (try simp only [Act.put, Ord.a, Ord.b, Ord.c])) | (refine wpAnyH_ready (rs := [11]) (by kernel_rfl) (by simp) ?_; refine AllReadyH.cons rfl (fun K hK => ?_) AllReadyH.nil; go_simp; (first | (go_at_call 133; refine (PQ.out _).mono ?_; rintro e w4 ⟨rfl, hy⟩)); go_wp2_with fail; (refine hK.out _ _ (by first | assumption | exact Ext.trans (by assumption) hy | exact Res.ext (by assumption) hy | exact ResB.ext (by assumption) hy | exact ResC.ext (by assumption) hy | (go_split_ands; (repeat' apply And.intro) <;> exact Ext.cellOf hy (by assumption))) (fun hHeld => ?_)); clear hK K; (try simp only [Act.put, Ord.a, Ord.b, Ord.c])))
    (first | (refine Ord.s 12 21 ?_ ?_; rfl; (try simp only [Act.put, Ord.a, Ord.b, Ord.c])) | (refine wpAnyH_ready (rs := [12]) (by kernel_rfl) (by simp) ?_; refine AllReadyH.cons rfl (fun K hK => ?_) AllReadyH.nil; go_simp; (first | (go_at_call 133; refine (PQ.out _).mono ?_; rintro e w4 ⟨rfl, hy⟩)); go_wp2_with fail; (refine hK.out _ _ (by first | assumption | exact Ext.trans (by assumption) hy | exact Res.ext (by assumption) hy | exact ResB.ext (by assumption) hy | exact ResC.ext (by assumption) hy | (go_split_ands; (repeat' apply And.intro) <;> exact Ext.cellOf hy (by assumption))) (fun hHeld => ?_)); clear hK K; (try simp only [Act.put, Ord.a, Ord.b, Ord.c])))
    (first | (refine Ord.s 13 22 ?_ ?_; rfl; (try simp only [Act.put, Ord.a, Ord.b, Ord.c])) | refine Ord.K 13 22 ?_)
    refine Ord.K 14 23 ?_
    refine Ord.K 15 4 ?_
    refine wpAnyH_done (by kernel_rfl) ?_ _
    go_wp2
    go_ret
    exact ⟨ret_bool H.out, hX.trans (by assumption)⟩
def ovN (x y : Bool) : Int := (if x = true then 1 else 0) + (if y = true then 2 else 0)
set_option maxHeartbeats 1000000 in
theorem overlapS_any (a b c d n p q u v m : Int) (w : World) (h : hlB a b c d n = true) (g : hlB p q u v m = true) : Calls Tryz.prog 156 #[Hv a b c d n, Hv p q u v m] w fun e w' => e = .returned (.int .i64 (ovN (caB a b c d n p q) (caB p q u v m a b))) ∧ Ext w w' := by
  have PA := Lib.hid (fun w => clearS_any a b c d n p q u v m w h (hlB_yes g).1.1 (hlB_yes g).1.2)
  have PB := Lib.hid (fun w => clearS_any p q u v m a b c d n w g (hlB_yes h).1.1 (hlB_yes h).1.2)
  generalize caB a b c d n p q = X at *
  generalize caB p q u v m a b = Y at *
  clear h g
  obtain ⟨W0, hW0⟩ : ∃ W0, W0 = (w.alloc (.cells #[.int .i64 a, .int .i64 b, .int .i64 c, .int .i64 d, .int .i64 n] 62)).alloc (.cells #[.int .i64 p, .int .i64 q, .int .i64 u, .int .i64 v, .int .i64 m] 62) := ⟨_, rfl⟩
  have hX : Ext w W0 := hW0 ▸ (((Ext.refl w).alloc _).alloc _)
  have hs0 : W0.heap.size = w.heap.size + 1 + 1 := by rw [hW0]; simp
  have e00 : ∀ w', (Ext W0) w' → w'.cell? ⟨w.heap.size, 0, none⟩ = some (.int .i64 a) := fun w' h => h.cellOf (by rw [hW0]; exact ((Ext.refl _).alloc _).cellOf (boxed 0 rfl (by simp)))
  have e01 : ∀ w', (Ext W0) w' → w'.cell? ⟨w.heap.size, 1, none⟩ = some (.int .i64 b) := fun w' h => h.cellOf (by rw [hW0]; exact ((Ext.refl _).alloc _).cellOf (boxed 1 rfl (by simp)))
  have e02 : ∀ w', (Ext W0) w' → w'.cell? ⟨w.heap.size, 2, none⟩ = some (.int .i64 c) := fun w' h => h.cellOf (by rw [hW0]; exact ((Ext.refl _).alloc _).cellOf (boxed 2 rfl (by simp)))
  have e03 : ∀ w', (Ext W0) w' → w'.cell? ⟨w.heap.size, 3, none⟩ = some (.int .i64 d) := fun w' h => h.cellOf (by rw [hW0]; exact ((Ext.refl _).alloc _).cellOf (boxed 3 rfl (by simp)))
  have e04 : ∀ w', (Ext W0) w' → w'.cell? ⟨w.heap.size, 4, none⟩ = some (.int .i64 n) := fun w' h => h.cellOf (by rw [hW0]; exact ((Ext.refl _).alloc _).cellOf (boxed 4 rfl (by simp)))
  have e10 : ∀ w', (Ext W0) w' → w'.cell? ⟨w.heap.size + 1, 0, none⟩ = some (.int .i64 p) := fun w' h => h.cellOf (by rw [hW0]; exact boxed 0 rfl (by simp))
  have e11 : ∀ w', (Ext W0) w' → w'.cell? ⟨w.heap.size + 1, 1, none⟩ = some (.int .i64 q) := fun w' h => h.cellOf (by rw [hW0]; exact boxed 1 rfl (by simp))
  have e12 : ∀ w', (Ext W0) w' → w'.cell? ⟨w.heap.size + 1, 2, none⟩ = some (.int .i64 u) := fun w' h => h.cellOf (by rw [hW0]; exact boxed 2 rfl (by simp))
  have e13 : ∀ w', (Ext W0) w' → w'.cell? ⟨w.heap.size + 1, 3, none⟩ = some (.int .i64 v) := fun w' h => h.cellOf (by rw [hW0]; exact boxed 3 rfl (by simp))
  have e14 : ∀ w', (Ext W0) w' → w'.cell? ⟨w.heap.size + 1, 4, none⟩ = some (.int .i64 m) := fun w' h => h.cellOf (by rw [hW0]; exact boxed 4 rfl (by simp))
  go_enter Tryz.func156, Tryz.ntmps156
  go_wp2_with fail
  rw [← hW0]
  clear hW0
  refine (PA.out _).mono ?_
  rintro e w1 ⟨rfl, hz⟩
  have g00 := e00 w1 hz; have g01 := e01 w1 hz; have g02 := e02 w1 hz; have g03 := e03 w1 hz; have g04 := e04 w1 hz
  have g10 := e10 w1 hz; have g11 := e11 w1 hz; have g12 := e12 w1 hz; have g13 := e13 w1 hz; have g14 := e14 w1 hz
  cases X <;> (
    go_wp2_with fail
    refine (PB.out _).mono ?_
    rintro e w2 ⟨rfl, hy⟩
    cases Y <;> (
      go_wp2
      go_ret
      exact ⟨rfl, hX.trans (hz.trans hy)⟩))
end Go.Proofs.YtmlojndkpnhalaaGreat.Hul
namespace Go.Proofs.YtmlojndkpnhalaaGreat.Hul
open Go.ChangeShapes Go.WideShapes Go.ChangeAt Go.RowKit
open Go.Proofs.YtmlojndkpnhalaaGreat.Num Go.Proofs.YtmlojndkpnhalaaGreat.Kit Go.Proofs.YtmlojndkpnhalaaGreat.Pts Go.Proofs.YtmlojndkpnhalaaGreat.Seg Go.Proofs.YtmlojndkpnhalaaGreat.Wnd
set_option linter.unusedVariables false
set_option linter.unusedSimpArgs false
def reE (k : Nat) (x y : Bool) : MapEntry := { key := .int .i64 k, val := .agg #[.bool x, .bool y], born := k }
def reL : Array MapEntry := #[reE 0 false false, reE 1 false true, reE 2 true false, reE 3 true true]
theorem upd_new {r clock : Nat} {es : Array MapEntry} {k : Int} {v : Value} {a w : World} (hb : w.heap[r]? = some (.map es clock)) (hn : Instr.findNow (.int .i64) (.int .i64 k) es.toList 0 = some none) (ha : a.heap.size ≤ r) (hx : Ext a w) :
    ∃ w', (Instr.mapUpdate 340 (.map (some r)) (.int .i64 k) v).run Tryz.prog w = .ok () w' ∧ w'.heap[r]? = some (.map (es.push { key := .int .i64 k, val := v, born := clock }) (clock + 1)) ∧ Ext a w' := by
  have hm : Tryz.prog.underlying 340 = some (.map 2 339) := Tryz.underlying340
  have hk : Tryz.prog.underlying 2 = some (.int .i64) := Tryz.underlying2
  have hc : (Instr.checkKey false 10000 2 (.int .i64 k)).run Tryz.prog w = .ok () w := MapKept.run_checkKey (k := .int .i64 k) hk (by simp [MapKept.IsKey]) false 9999
  refine ⟨{ w with heap := w.heap.setIfInBounds r (.map (es.push { key := .int .i64 k, val := v, born := clock }) (clock + 1)) }, ?_, (MapKept.heap_set hb).1, ?_⟩
  · simp [Instr.mapUpdate, run_underlying hm, MapKept.run_getObj_map hb, hc, MapKept.run_findKey hk hn, MapKept.run_setObj_map _ hb, Result.andThen]
  · obtain ⟨h1, h2, h3, h4, h5⟩ := hx.below
    exact ⟨h1, h2, h3, by simpa using h4, fun i hi => ((MapKept.heap_set hb).2 i (by omega)).trans (h5 i hi)⟩
theorem relations_any (w : World) : Calls Tryz.prog 282 #[] w fun e w' => e = .returned (.map (some w.heap.size)) ∧ w'.heap[w.heap.size]? = some (.map reL 4) ∧ Ext w w' := by
  have hmm := @run_makeMap Tryz.prog
  have b0 : (w.alloc (.map #[] 0)).heap[w.heap.size]? = some (.map #[] 0) := heap_alloc_new w _
  obtain ⟨w1, u1, b1, x1⟩ := upd_new (k := 0) (v := .agg #[.bool false, .bool false]) b0 rfl (Nat.le_refl _) ((Ext.refl w).alloc _)
  obtain ⟨w2, u2, b2, x2⟩ := upd_new (k := 1) (v := .agg #[.bool false, .bool true]) b1 rfl (Nat.le_refl _) x1
  obtain ⟨w3, u3, b3, x3⟩ := upd_new (k := 2) (v := .agg #[.bool true, .bool false]) b2 rfl (Nat.le_refl _) x2
  obtain ⟨w4, u4, b4, x4⟩ := upd_new (k := 3) (v := .agg #[.bool true, .bool true]) b3 rfl (Nat.le_refl _) x3
  go_enter Tryz.func282, Tryz.ntmps282
  go_wp2
  go_ret
  exact ⟨rfl, b4, x4⟩
theorem next_rel (wr : World) (r bm : Nat) (seen : Array Nat) (hr : wr.heap[r]? = some (.mapIter (some bm) 4 seen 4)) (hb : wr.heap[bm]? = some (.map reL 4)) :
    ((leftOf reL seen).size = 0 ∧ (∀ ty, (Instr.next (.pointer (some ⟨r, 0, none⟩)) false ty).run Tryz.prog wr = .ok (.tuple #[.bool false]) wr)) ∨
    ∃ e ∈ (leftOf reL seen).toList, ∃ W2 : World, (∀ ty, (Instr.next (.pointer (some ⟨r, 0, none⟩)) false ty).run Tryz.prog wr = .ok (.tuple #[.bool true, e.key, e.val]) W2) ∧ W2.heap[r]? = some (.mapIter (some bm) 4 (seen.push e.born) 4) ∧ Chg r wr W2 := by
  have hold : ∀ x ∈ reL.toList, x.born < 4 := by
    intro x hx
    simp [reL, reE] at hx
    rcases hx with rfl | rfl | rfl | rfl <;> simp
  rcases run_next_at (P := Tryz.prog) wr 0 r bm 4 4 seen reL 4 hr hb hold (Nat.le_refl _) with ⟨h0, hrun⟩ | ⟨e, he, w1, hw, hrun⟩
  · exact .inl ⟨h0, fun _ => hrun⟩
  · refine .inr ⟨e, he, _, fun _ => hrun, ?_, ?_⟩
    · have hr1 : w1.heap[r]? = some (.mapIter (some bm) 4 seen 4) := by rcases hw with rfl | rfl <;> exact hr
      have hlt := (Array.getElem?_eq_some_iff.1 hr1).1
      simp [ChangeMaps.setBlock, hlt]
    · have c1 : Chg r wr w1 := by
        rcases hw with rfl | rfl
        · exact Chg.refl _ _
        · exact (Chg.refl _ _).drew
      refine c1.trans ⟨rfl, rfl, rfl, by simp [ChangeMaps.setBlock], fun k _ hk => ?_⟩
      simp [ChangeMaps.setBlock, Ne.symm hk]
def fdN (t : Nat) (seen : Array Nat) : Int := if seen.contains t = true then (t : Int) else 0
theorem fd_all {t : Nat} {seen : Array Nat} (ht : t < 4) (h : (leftOf reL seen).size = 0) : fdN t seen = t := by
  unfold fdN
  cases hc : seen.contains t
  · exfalso
    have h1 : leftOf reL seen = #[] := Array.eq_empty_of_size_eq_zero h
    obtain ⟨e, he, hb⟩ : ∃ e, e ∈ reL ∧ e.born = t := by
      rcases (show t = 0 ∨ t = 1 ∨ t = 2 ∨ t = 3 by omega) with rfl | rfl | rfl | rfl
      · exact ⟨reE 0 false false, by simp [reL], rfl⟩
      · exact ⟨reE 1 false true, by simp [reL], rfl⟩
      · exact ⟨reE 2 true false, by simp [reL], rfl⟩
      · exact ⟨reE 3 true true, by simp [reL], rfl⟩
    have h2 : e ∈ leftOf reL seen := by
      unfold leftOf
      rw [Array.mem_filter]
      exact ⟨he, by rw [hb, hc]; rfl⟩
    rw [h1] at h2
    simp at h2
  · rw [if_pos rfl]
theorem fd_none (t : Nat) : fdN t #[] = 0 := by simp [fdN]
theorem seen_of {w : World} {r : Nat} {a : Option Nat} {b c : Nat} {s : Array Nat} (h : w.heap[r]? = some (.mapIter a b s c)) : w.iterSeen r = s := by
  unfold World.iterSeen
  rw [h]
theorem fd_hit {t : Nat} {seen : Array Nat} : fdN t (seen.push t) = t := by
  unfold fdN
  rw [contains_push, beq_self_eq_true, Bool.or_true, if_pos rfl]
theorem fd_miss {t k : Nat} {seen : Array Nat} (h : t ≠ k) : fdN t (seen.push k) = fdN t seen := by
  unfold fdN
  rw [contains_push, beq_eq_false_iff_ne.2 h, Bool.or_false]
def ovK (x y : Bool) : Nat := (if x = true then 1 else 0) + (if y = true then 2 else 0)
theorem ovK_eq (x y : Bool) : ((ovK x y : Nat) : Int) = ovN x y := by cases x <;> cases y <;> rfl
set_option maxRecDepth 100000 in
set_option maxHeartbeats 4000000 in
theorem relationTo_any (a b c d n p q u v m : Int) (w : World) (h : hlB a b c d n = true) (g : hlB p q u v m = true) : Calls Tryz.prog 236 #[Hv a b c d n, Hv p q u v m] w fun e w' => e = .returned (.int .i64 (ovN (caB a b c d n p q) (caB p q u v m a b))) ∧ Ext w w' := by
  have PA := Lib.hid (fun w => hasAstern_any a b c d n p q u v m w h (hlB_yes g).1.1 (hlB_yes g).1.2)
  have PB := Lib.hid (fun w => hasAstern_any p q u v m a b c d n w g (hlB_yes h).1.1 (hlB_yes h).1.2)
  generalize caB a b c d n p q = X at *
  generalize caB p q u v m a b = Y at *
  clear h g
  have ht := Lib.hid (ovK_eq X Y)
  have ht4 : ovK X Y < 4 := by cases X <;> cases Y <;> decide
  have hmap : Tryz.prog.underlying 340 = some (.map 2 339) := Tryz.underlying340
  obtain ⟨W0, hW0⟩ : ∃ W0, W0 = (w.alloc (.cells #[.int .i64 a, .int .i64 b, .int .i64 c, .int .i64 d, .int .i64 n] 62)).alloc (.cells #[.int .i64 p, .int .i64 q, .int .i64 u, .int .i64 v, .int .i64 m] 62) := ⟨_, rfl⟩
  have hX : Ext w W0 := hW0 ▸ (((Ext.refl w).alloc _).alloc _)
  have hs0 : W0.heap.size = w.heap.size + 1 + 1 := by rw [hW0]; simp
  have e00 : ∀ w', (Ext W0) w' → w'.cell? ⟨w.heap.size, 0, none⟩ = some (.int .i64 a) := fun w' h => h.cellOf (by rw [hW0]; exact ((Ext.refl _).alloc _).cellOf (boxed 0 rfl (by simp)))
  have e01 : ∀ w', (Ext W0) w' → w'.cell? ⟨w.heap.size, 1, none⟩ = some (.int .i64 b) := fun w' h => h.cellOf (by rw [hW0]; exact ((Ext.refl _).alloc _).cellOf (boxed 1 rfl (by simp)))
  have e02 : ∀ w', (Ext W0) w' → w'.cell? ⟨w.heap.size, 2, none⟩ = some (.int .i64 c) := fun w' h => h.cellOf (by rw [hW0]; exact ((Ext.refl _).alloc _).cellOf (boxed 2 rfl (by simp)))
  have e03 : ∀ w', (Ext W0) w' → w'.cell? ⟨w.heap.size, 3, none⟩ = some (.int .i64 d) := fun w' h => h.cellOf (by rw [hW0]; exact ((Ext.refl _).alloc _).cellOf (boxed 3 rfl (by simp)))
  have e04 : ∀ w', (Ext W0) w' → w'.cell? ⟨w.heap.size, 4, none⟩ = some (.int .i64 n) := fun w' h => h.cellOf (by rw [hW0]; exact ((Ext.refl _).alloc _).cellOf (boxed 4 rfl (by simp)))
  have e10 : ∀ w', (Ext W0) w' → w'.cell? ⟨w.heap.size + 1, 0, none⟩ = some (.int .i64 p) := fun w' h => h.cellOf (by rw [hW0]; exact boxed 0 rfl (by simp))
  have e11 : ∀ w', (Ext W0) w' → w'.cell? ⟨w.heap.size + 1, 1, none⟩ = some (.int .i64 q) := fun w' h => h.cellOf (by rw [hW0]; exact boxed 1 rfl (by simp))
  have e12 : ∀ w', (Ext W0) w' → w'.cell? ⟨w.heap.size + 1, 2, none⟩ = some (.int .i64 u) := fun w' h => h.cellOf (by rw [hW0]; exact boxed 2 rfl (by simp))
  have e13 : ∀ w', (Ext W0) w' → w'.cell? ⟨w.heap.size + 1, 3, none⟩ = some (.int .i64 v) := fun w' h => h.cellOf (by rw [hW0]; exact boxed 3 rfl (by simp))
  have e14 : ∀ w', (Ext W0) w' → w'.cell? ⟨w.heap.size + 1, 4, none⟩ = some (.int .i64 m) := fun w' h => h.cellOf (by rw [hW0]; exact boxed 4 rfl (by simp))
  go_enter Tryz.func236, Tryz.ntmps236
  go_wp2_with fail
  rw [← hW0]
  clear hW0
  go_cut [5] (fun s wx => (∃ B, s = .pointer (some ⟨B, 0, none⟩) ∧ w.heap.size + 1 < B ∧ Box wx B [.bool Y, .bool X]) ∧ Ext W0 wx)
  case first =>
    refine wp_region_held_drew (S := fun w' => Ext W0 w') (by kernel_rfl) (by (try dsimp only); exact Ext.drew (Ext.refl W0)) (fun hHeld => ?_)
    have hE : Ext W0 W0.drew := Ext.drew (Ext.refl W0)
    obtain ⟨V0, hV0⟩ : ∃ V0, V0 = W0.drew := ⟨_, rfl⟩
    rw [← hV0] at hE hHeld ⊢
    clear hV0
    refine Ord.K 0 9 ?_; refine Ord.K 1 10 ?_; refine Ord.K 3 12 ?_; refine Ord.K 4 13 ?_
    refine wpAnyH_ready (rs := [2, 7]) (by kernel_rfl) (by simp) ?_
    refine (AllReadyH.cons rfl (fun K hK => ?_) (AllReadyH.cons rfl (fun K hK => ?_) AllReadyH.nil))
    · go_simp
      go_at_call 281
      refine (PB.out _).mono ?_
      rintro e V1 ⟨rfl, hy⟩
      go_wp2_with fail
      have zy := Ext.size hy
      have hE' := hE.trans hy
      refine hK.out _ _ hE' (fun hHeld => ?_)
      clear hK K
      (try simp only [Act.put, Ord.a, Ord.b, Ord.c])
      replace hE := hE'
      clear hE' hy
      refine wpAnyH_ready (rs := [5, 7]) (by kernel_rfl) (by simp) ?_
      refine (AllReadyH.cons rfl (fun K hK => ?_) (AllReadyH.cons rfl (fun K hK => ?_) AllReadyH.nil))
      · go_simp
        go_at_call 281
        refine (PA.out _).mono ?_
        rintro e V2 ⟨rfl, hy⟩
        go_wp2_with fail
        have zy := Ext.size hy
        have hE' := hE.trans hy
        refine hK.out _ _ hE' (fun hHeld => ?_)
        clear hK K
        (try simp only [Act.put, Ord.a, Ord.b, Ord.c])
        replace hE := hE'
        clear hE' hy
        refine Ord.K 6 15 ?_
        refine wpAnyH_ready (rs := [7]) (by kernel_rfl) (by simp) ?_
        refine (AllReadyH.cons rfl (fun K hK => ?_) AllReadyH.nil)
        go_simp
        have hy : Ext V2 (V2.alloc (.cells #[.bool false, .bool false] 339)) := (Ext.refl V2).alloc _
        have hE' := hE.trans hy
        refine hK.out _ _ hE' (fun hHeld => ?_)
        clear hK K
        (try simp only [Act.put, Ord.a, Ord.b, Ord.c])
        have P7 : Box (V2.alloc (.cells #[.bool false, .bool false] 339)) V2.heap.size [.bool false, .bool false] := Box.new (vs := [.bool false, .bool false]) rfl
        have z7 := Ext.size hE
        have y7 : V2.heap.size < (V2.alloc (.cells #[.bool false, .bool false] 339)).heap.size := by simp
        replace hE := hE'
        clear hE' hy
        generalize V2.alloc (.cells #[.bool false, .bool false] 339) = V3 at *
        refine wpAnyH_ready (rs := [8]) (by kernel_rfl) (by simp) ?_
        refine (AllReadyH.cons rfl (fun K hK => ?_) AllReadyH.nil)
        obtain ⟨⟨r0, r1⟩, r2, r3⟩ := P7.two
        go_simp
        have hE' : Ext W0 ((V3.setCell ⟨V2.heap.size, 0, none⟩ (.bool Y)).setCell ⟨V2.heap.size, 1, none⟩ (.bool X)) := ((hE.setNew (by first | omega | (simp; omega) | simp) _).setNew (by first | omega | (simp; omega) | simp) _)
        refine hK.out _ _ hE' (fun hHeld => ?_)
        clear hK K r0 r1 r2 r3
        (try simp only [Act.put, Ord.a, Ord.b, Ord.c])
        replace P7 := P7.set2 (u := .bool Y) (v := .bool X)
        replace hE := hE'
        clear hE'
        generalize ((V3.setCell ⟨V2.heap.size, 0, none⟩ (.bool Y)).setCell ⟨V2.heap.size, 1, none⟩ (.bool X)) = V4 at *
        refine wpAnyH_done (by kernel_rfl) ?_ _
        go_wp2_with fail; go_meet; exact ⟨⟨_, rfl, by omega, P7⟩, hE⟩
      · go_simp
        have hy : Ext V1 (V1.alloc (.cells #[.bool false, .bool false] 339)) := (Ext.refl V1).alloc _
        have hE' := hE.trans hy
        refine hK.out _ _ hE' (fun hHeld => ?_)
        clear hK K
        (try simp only [Act.put, Ord.a, Ord.b, Ord.c])
        have P7 : Box (V1.alloc (.cells #[.bool false, .bool false] 339)) V1.heap.size [.bool false, .bool false] := Box.new (vs := [.bool false, .bool false]) rfl
        have z7 := Ext.size hE
        have y7 : V1.heap.size < (V1.alloc (.cells #[.bool false, .bool false] 339)).heap.size := by simp
        replace hE := hE'
        clear hE' hy
        generalize V1.alloc (.cells #[.bool false, .bool false] 339) = V2 at *
        refine wpAnyH_ready (rs := [5]) (by kernel_rfl) (by simp) ?_
        refine (AllReadyH.cons rfl (fun K hK => ?_) AllReadyH.nil)
        go_simp
        go_at_call 281
        refine (PA.out _).mono ?_
        rintro e V3 ⟨rfl, hy⟩
        go_wp2_with fail
        have zy := Ext.size hy
        have hE' := hE.trans hy
        refine hK.out _ _ hE' (fun hHeld => ?_)
        clear hK K
        (try simp only [Act.put, Ord.a, Ord.b, Ord.c])
        replace P7 := P7.ext hy
        replace hE := hE'
        clear hE' hy
        refine Ord.K 6 15 ?_
        refine wpAnyH_ready (rs := [8]) (by kernel_rfl) (by simp) ?_
        refine (AllReadyH.cons rfl (fun K hK => ?_) AllReadyH.nil)
        obtain ⟨⟨r0, r1⟩, r2, r3⟩ := P7.two
        go_simp
        have hE' : Ext W0 ((V3.setCell ⟨V1.heap.size, 0, none⟩ (.bool Y)).setCell ⟨V1.heap.size, 1, none⟩ (.bool X)) := ((hE.setNew (by first | omega | (simp; omega) | simp) _).setNew (by first | omega | (simp; omega) | simp) _)
        refine hK.out _ _ hE' (fun hHeld => ?_)
        clear hK K r0 r1 r2 r3
        (try simp only [Act.put, Ord.a, Ord.b, Ord.c])
        replace P7 := P7.set2 (u := .bool Y) (v := .bool X)
        replace hE := hE'
        clear hE'
        generalize ((V3.setCell ⟨V1.heap.size, 0, none⟩ (.bool Y)).setCell ⟨V1.heap.size, 1, none⟩ (.bool X)) = V4 at *
        refine wpAnyH_done (by kernel_rfl) ?_ _
        go_wp2_with fail; go_meet; exact ⟨⟨_, rfl, by omega, P7⟩, hE⟩
    · go_simp
      have hy : Ext V0 (V0.alloc (.cells #[.bool false, .bool false] 339)) := (Ext.refl V0).alloc _
      have hE' := hE.trans hy
      refine hK.out _ _ hE' (fun hHeld => ?_)
      clear hK K
      (try simp only [Act.put, Ord.a, Ord.b, Ord.c])
      have P7 : Box (V0.alloc (.cells #[.bool false, .bool false] 339)) V0.heap.size [.bool false, .bool false] := Box.new (vs := [.bool false, .bool false]) rfl
      have z7 := Ext.size hE
      have y7 : V0.heap.size < (V0.alloc (.cells #[.bool false, .bool false] 339)).heap.size := by simp
      replace hE := hE'
      clear hE' hy
      generalize V0.alloc (.cells #[.bool false, .bool false] 339) = V1 at *
      refine wpAnyH_ready (rs := [2]) (by kernel_rfl) (by simp) ?_
      refine (AllReadyH.cons rfl (fun K hK => ?_) AllReadyH.nil)
      go_simp
      go_at_call 281
      refine (PB.out _).mono ?_
      rintro e V2 ⟨rfl, hy⟩
      go_wp2_with fail
      have zy := Ext.size hy
      have hE' := hE.trans hy
      refine hK.out _ _ hE' (fun hHeld => ?_)
      clear hK K
      (try simp only [Act.put, Ord.a, Ord.b, Ord.c])
      replace P7 := P7.ext hy
      replace hE := hE'
      clear hE' hy
      refine wpAnyH_ready (rs := [5]) (by kernel_rfl) (by simp) ?_
      refine (AllReadyH.cons rfl (fun K hK => ?_) AllReadyH.nil)
      go_simp
      go_at_call 281
      refine (PA.out _).mono ?_
      rintro e V3 ⟨rfl, hy⟩
      go_wp2_with fail
      have zy := Ext.size hy
      have hE' := hE.trans hy
      refine hK.out _ _ hE' (fun hHeld => ?_)
      clear hK K
      (try simp only [Act.put, Ord.a, Ord.b, Ord.c])
      replace P7 := P7.ext hy
      replace hE := hE'
      clear hE' hy
      refine Ord.K 6 15 ?_
      refine wpAnyH_ready (rs := [8]) (by kernel_rfl) (by simp) ?_
      refine (AllReadyH.cons rfl (fun K hK => ?_) AllReadyH.nil)
      obtain ⟨⟨r0, r1⟩, r2, r3⟩ := P7.two
      go_simp
      have hE' : Ext W0 ((V3.setCell ⟨V0.heap.size, 0, none⟩ (.bool Y)).setCell ⟨V0.heap.size, 1, none⟩ (.bool X)) := ((hE.setNew (by first | omega | (simp; omega) | simp) _).setNew (by first | omega | (simp; omega) | simp) _)
      refine hK.out _ _ hE' (fun hHeld => ?_)
      clear hK K r0 r1 r2 r3
      (try simp only [Act.put, Ord.a, Ord.b, Ord.c])
      replace P7 := P7.set2 (u := .bool Y) (v := .bool X)
      replace hE := hE'
      clear hE'
      generalize ((V3.setCell ⟨V0.heap.size, 0, none⟩ (.bool Y)).setCell ⟨V0.heap.size, 1, none⟩ (.bool X)) = V4 at *
      refine wpAnyH_done (by kernel_rfl) ?_ _
      go_wp2_with fail; go_meet; exact ⟨⟨_, rfl, by omega, P7⟩, hE⟩
  case rest =>
    clear e00 e01 e02 e03 e04 e10 e11 e12 e13 e14
    obtain ⟨⟨B, rfl, hB, PB0⟩, X1⟩ := hcut
    rename World => w1
    go_wp2_with fail
    refine (relations_any _).mono ?_
    rintro e w2 ⟨rfl, hL, hy⟩
    have PB2 := PB0.ext hy
    have X2 := X1.trans hy
    have hBl := PB0.lt
    have hyz := Ext.size hy
    clear PB0 hy
    have hrg := run_range_map (P := Tryz.prog) w2 340 2 339 w1.heap.size reL 4 hmap hL
    have hlt : w1.heap.size < w2.heap.size := (Array.getElem?_eq_some_iff.1 hL).1
    go_wp2
    go_loopw [6] (fun s wr => ∃ seen : Array Nat, wr.heap[w2.heap.size]? = some (.mapIter (some w1.heap.size) 4 seen 4) ∧ wr.heap[w1.heap.size]? = some (.map reL 4) ∧ Box wr B [.bool Y, .bool X] ∧ Ext W0 wr ∧ s = .int .i64 (fdN (ovK X Y) seen)) (fun _ wr => (leftOf reL (wr.iterSeen w2.heap.size)).size)
    case atStart =>
      exact ⟨#[], heap_alloc_new w2 _, by rw [heap_alloc_old w2 _ hlt]; exact hL, PB2.alloc _, X2.alloc _, congrArg (Value.int .i64) (fd_none _).symm⟩
    case round =>
      obtain ⟨seen, hr, hb, PBr, Xr, rfl⟩ := hrel
      rcases next_rel wr w2.heap.size w1.heap.size seen hr hb with ⟨h0, hnx⟩ | ⟨e, he, W2, hnx, hr2, hc⟩
      · have hf := Lib.hid ((fd_all ht4 h0).trans ht.out)
        go_wp2
        go_ret
        exact ⟨ret_int hf.out.symm, hX.trans Xr⟩
      · have hb2 : W2.heap[w1.heap.size]? = some (.map reL 4) := by rw [hc.block _ (Array.getElem?_eq_some_iff.1 hb).1 (by omega)]; exact hb
        have hz2 := hc.size
        have hsn : (leftOf reL (seen.push e.born)).size < (leftOf reL seen).size := left_shrinks reL seen e he
        have hme := (mem_left he).1
        have hnd : (reL.toList.map (·.born)).Nodup := by decide
        have hen := run_entry_at (P := Tryz.prog) W2 w2.heap.size w1.heap.size 4 seen reL 4 e hr2 hb2 hme hnd
        have PB3 := PBr.chg hc (by omega)
        have X3 := hc.ext Xr (by have := Ext.size X2; omega)
        have hB1 : ∀ A, (W2.alloc A).cell? ⟨B, 0, none⟩ = some (.bool Y) := fun A => ((Ext.refl W2).alloc A).cellOf PB3.two.1.1
        have hB2 : ∀ A, (W2.alloc A).cell? ⟨B, 1, none⟩ = some (.bool X) := fun A => ((Ext.refl W2).alloc A).cellOf PB3.two.1.2
        have hm4 : e = reE 0 false false ∨ e = reE 1 false true ∨ e = reE 2 true false ∨ e = reE 3 true true := by simpa [reL] using hme
        have hs1 := seen_of hr
        have hl2 : w2.heap.size < W2.heap.size := (Array.getElem?_eq_some_iff.1 hr2).1
        have hl1 : w1.heap.size < W2.heap.size := (Array.getElem?_eq_some_iff.1 hb2).1
        clear hme he hr hb hL hrg X1 PBr PB2 X2 hmap hc
        rcases hm4 with rfl | rfl | rfl | rfl <;> cases X <;> cases Y
        all_goals
          simp only [reE] at hnx hen hr2 hsn
          go_wp2
          refine ⟨⟨seen.push _, by rw [heap_alloc_old W2 _ hl2]; exact hr2, by rw [heap_alloc_old W2 _ hl1]; exact hb2, PB3.alloc _, X3.alloc _, ?_⟩, ?_⟩
          · first
            | exact congrArg (Value.int .i64) (fd_miss (seen := seen) (by decide)).symm
            | exact congrArg (Value.int .i64) (fd_hit (seen := seen)).symm
          · rw [hs1, seen_of (s := seen.push _) (by rw [heap_alloc_old W2 _ hl2]; exact hr2)]
            exact hsn
end Go.Proofs.YtmlojndkpnhalaaGreat.Hul
