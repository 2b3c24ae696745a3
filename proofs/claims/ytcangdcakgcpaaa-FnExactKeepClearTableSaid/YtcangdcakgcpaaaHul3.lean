/- Hulls (chapter 9): length, stern, how far ahead, clear astern, relation (spec). -/
import Derived.Test.YtcangdcakgcpaaaHul2
import Derived.Test.YtcangdcakgcpaaaWid
namespace Go.Proofs.Ytcangdcakgcpaaa.Hul
open Go.ChangeShapes Go.WideShapes Go.ChangeAt Go.RowKit
open Go.Proofs.Ytcangdcakgcpaaa.Num Go.Proofs.Ytcangdcakgcpaaa.Kit Go.Proofs.Ytcangdcakgcpaaa.Pts Go.Proofs.Ytcangdcakgcpaaa.Seg Go.Proofs.Ytcangdcakgcpaaa.Wnd Go.Proofs.Ytcangdcakgcpaaa.Rt Go.Proofs.Ytcangdcakgcpaaa.Root
open Go.Proofs.Ytcangdcakgcpaaa.Lth (ln2 ln2_pos sqs_bd)
set_option linter.unusedVariables false
set_option linter.unusedSimpArgs false

set_option maxHeartbeats 1000000 in
theorem alongS_any (a b c d n p q u v m : Int) (w : World) (h : hlB a b c d n = true) (hp : Co p) (hq : Co q) : Calls Try.prog 122 #[Hv a b c d n, Hv p q u v m] w fun e w' => e = .returned (.int .i64 (alH a b c d p q)) ∧ Ext w w' := by
  obtain ⟨⟨ha, hb⟩, ⟨hc, hd, hn⟩, n1, n2⟩ := hlB_yes h
  unfold Co at ha hb hp hq
  have PV := Lib.hid (fun w => minus_any p q a b w hp hq ha hb)
  have PD := Lib.hid (fun w => show Calls Try.prog 97 #[Pt (p - a) (q - b), Pt c d] w (fun e w' => e = .returned (.int .i64 (alH a b c d p q)) ∧ Ext w w') from dot_any (p - a) (q - b) c d w (by omega) (by omega) hc hd)
  clear hn
  obtain ⟨W0, hW0⟩ : ∃ W0, W0 = (w.alloc (.cells #[.int .i64 a, .int .i64 b, .int .i64 c, .int .i64 d, .int .i64 n] 39)).alloc (.cells #[.int .i64 p, .int .i64 q, .int .i64 u, .int .i64 v, .int .i64 m] 39) := ⟨_, rfl⟩
  have hX : Ext w W0 := hW0 ▸ (((Ext.refl w).alloc _).alloc _)
  have hs0 : W0.heap.size = w.heap.size + 1 + 1 := by rw [hW0]; simp
  have e00 : ∀ w', (Ext W0) w' → w'.cell? ⟨w.heap.size, 0, none⟩ = some (.int .i64 a) := fun w' h => h.cellOf (by rw [hW0]; exact ((Ext.refl _).alloc _).cellOf (boxed 0 rfl (by simp)))
  have e01 : ∀ w', (Ext W0) w' → w'.cell? ⟨w.heap.size, 1, none⟩ = some (.int .i64 b) := fun w' h => h.cellOf (by rw [hW0]; exact ((Ext.refl _).alloc _).cellOf (boxed 1 rfl (by simp)))
  have e02 : ∀ w', (Ext W0) w' → w'.cell? ⟨w.heap.size, 2, none⟩ = some (.int .i64 c) := fun w' h => h.cellOf (by rw [hW0]; exact ((Ext.refl _).alloc _).cellOf (boxed 2 rfl (by simp)))
  have e03 : ∀ w', (Ext W0) w' → w'.cell? ⟨w.heap.size, 3, none⟩ = some (.int .i64 d) := fun w' h => h.cellOf (by rw [hW0]; exact ((Ext.refl _).alloc _).cellOf (boxed 3 rfl (by simp)))
  have e04 : ∀ w', (Ext W0) w' → w'.cell? ⟨w.heap.size, 4, none⟩ = some (.int .i64 n) := fun w' h => h.cellOf (by rw [hW0]; exact ((Ext.refl _).alloc _).cellOf (boxed 4 rfl (by simp)))
  have e10 : ∀ w', (Ext W0) w' → w'.cell? ⟨w.heap.size + 1, 0, none⟩ = some (.int .i64 p) := fun w' h => h.cellOf (by rw [hW0]; exact boxed 0 rfl (by simp))
  have e11 : ∀ w', (Ext W0) w' → w'.cell? ⟨w.heap.size + 1, 1, none⟩ = some (.int .i64 q) := fun w' h => h.cellOf (by rw [hW0]; exact boxed 1 rfl (by simp))
  have e12 : ∀ w', (Ext W0) w' → w'.cell? ⟨w.heap.size + 1, 2, none⟩ = some (.int .i64 u) := fun w' h => h.cellOf (by rw [hW0]; exact boxed 2 rfl (by simp))
  have e13 : ∀ w', (Ext W0) w' → w'.cell? ⟨w.heap.size + 1, 3, none⟩ = some (.int .i64 v) := fun w' h => h.cellOf (by rw [hW0]; exact boxed 3 rfl (by simp))
  have e14 : ∀ w', (Ext W0) w' → w'.cell? ⟨w.heap.size + 1, 4, none⟩ = some (.int .i64 m) := fun w' h => h.cellOf (by rw [hW0]; exact boxed 4 rfl (by simp))
  go_enter Try.func122, Try.ntmps122
  go_wp2_with fail
  rw [← hW0]
  clear hW0
  have hr := Ext.refl W0
  refine wp_region_held_drew (S := (fun w' => Ext W0 w')) (by kernel_rfl) (by (try dsimp only); first | go_keep | exact (Ext.refl _).drew | exact Res.new2.drew | exact Res.new4.drew | exact ResB.drew (by assumption) | exact ResC.drew (by assumption) | assumption | exact Ext.drew (by assumption) | exact Res.drew (by assumption)) (fun hHeld => ?_)
  refine Ord.K 0 5 ?_
  refine Ord.K 1 6 ?_
  refine Ord.K 2 7 ?_
  refine Ord.K 3 8 ?_
  refine Ord.K 5 10 ?_
  refine Ord.K 6 11 ?_
  (refine wpAnyH_ready (rs := [4]) (by kernel_rfl) (by simp) ?_; refine AllReadyH.cons rfl (fun K hK => ?_) AllReadyH.nil; go_simp; (first | (go_at_call 117; refine (PV.out _).mono ?_; rintro e w4 ⟨rfl, hy⟩) | (go_at_call 97; refine (PD.out _).mono ?_; rintro e w4 ⟨rfl, hy⟩)); go_wp2_with fail; (refine hK.out _ _ (by first | assumption | exact Ext.trans (by assumption) hy | exact Res.ext (by assumption) hy | exact ResB.ext (by assumption) hy | exact ResC.ext (by assumption) hy | (go_split_ands; (repeat' apply And.intro) <;> exact Ext.cellOf hy (by assumption))) (fun hHeld => ?_)); clear hK K; (try simp only [Act.put, Ord.a, Ord.b, Ord.c]))
  (refine wpAnyH_ready (rs := [7]) (by kernel_rfl) (by simp) ?_; refine AllReadyH.cons rfl (fun K hK => ?_) AllReadyH.nil; go_simp; (first | (go_at_call 117; refine (PV.out _).mono ?_; rintro e w4 ⟨rfl, hy⟩) | (go_at_call 97; refine (PD.out _).mono ?_; rintro e w4 ⟨rfl, hy⟩)); go_wp2_with fail; (refine hK.out _ _ (by first | assumption | exact Ext.trans (by assumption) hy | exact Res.ext (by assumption) hy | exact ResB.ext (by assumption) hy | exact ResC.ext (by assumption) hy | (go_split_ands; (repeat' apply And.intro) <;> exact Ext.cellOf hy (by assumption))) (fun hHeld => ?_)); clear hK K; (try simp only [Act.put, Ord.a, Ord.b, Ord.c]))
  refine Ord.K 8 4 ?_
  refine wpAnyH_done (by kernel_rfl) ?_ _
  go_wp2
  go_ret
  exact ⟨rfl, hX.trans (by assumption)⟩

set_option maxHeartbeats 1000000 in
theorem clearS_any (a b c d n p q u v m : Int) (w : World) (h : hlB a b c d n = true) (hp : Co p) (hq : Co q) : Calls Try.prog 104 #[Hv a b c d n, Hv p q u v m] w fun e w' => e = .returned (.bool (caB a b c d n p q)) ∧ Ext w w' := by
  obtain ⟨A1, A2⟩ := al_bd h hp hq
  have PA := Lib.hid (fun w => alongS_any a b c d n p q u v m w h hp hq)
  obtain ⟨⟨ha, hb⟩, ⟨hc, hd, hn⟩, n1, n2⟩ := hlB_yes h
  have PQ := Lib.hid (fun w => dot_any c d c d w hc hd hc hd)
  obtain ⟨s0, s1⟩ := sqs_bd hc hd
  have PR := Lib.hid (fun w => Wid.rootOfS_any n (c * c + d * d) w (by omega) (by omega) s0 s1)
  have HN := Lib.hid (fun g => ca_no (a := a) (b := b) (c := c) (d := d) (n := n) (p := p) (q := q) g)
  have HY := Lib.hid (fun g => ca_yes (a := a) (b := b) (c := c) (d := d) (n := n) (p := p) (q := q) g)
  obtain ⟨K, hK⟩ : ∃ K, K = caB a b c d n p q := ⟨_, rfl⟩
  obtain ⟨L, hL⟩ : ∃ L, L = alH a b c d p q := ⟨_, rfl⟩
  obtain ⟨Q, hQ⟩ : ∃ Q, Q = c * c + d * d := ⟨_, rfl⟩
  rw [← hK, ← hL] at HN
  rw [← hK, ← hL, ← hQ] at HY
  rw [← hK]
  rw [← hL] at PA A1 A2
  rw [← hQ] at PQ PR s0 s1
  obtain ⟨Z, hZ⟩ : ∃ Z, Z = rt (n * n * Q) := ⟨_, rfl⟩
  rw [← hZ] at PR HY
  clear hK hL hQ hn h hp hq ha hb hc hd hZ
  have T0 : IntKind.i64.wrap (-L) = -L := IntWalk.i64_in _ (by omega)
  obtain ⟨W0, hW0⟩ : ∃ W0, W0 = (w.alloc (.cells #[.int .i64 a, .int .i64 b, .int .i64 c, .int .i64 d, .int .i64 n] 39)).alloc (.cells #[.int .i64 p, .int .i64 q, .int .i64 u, .int .i64 v, .int .i64 m] 39) := ⟨_, rfl⟩
  have hX : Ext w W0 := hW0 ▸ (((Ext.refl w).alloc _).alloc _)
  have hs0 : W0.heap.size = w.heap.size + 1 + 1 := by rw [hW0]; simp
  have e00 : ∀ w', (Ext W0) w' → w'.cell? ⟨w.heap.size, 0, none⟩ = some (.int .i64 a) := fun w' h => h.cellOf (by rw [hW0]; exact ((Ext.refl _).alloc _).cellOf (boxed 0 rfl (by simp)))
  have e01 : ∀ w', (Ext W0) w' → w'.cell? ⟨w.heap.size, 1, none⟩ = some (.int .i64 b) := fun w' h => h.cellOf (by rw [hW0]; exact ((Ext.refl _).alloc _).cellOf (boxed 1 rfl (by simp)))
  have e02 : ∀ w', (Ext W0) w' → w'.cell? ⟨w.heap.size, 2, none⟩ = some (.int .i64 c) := fun w' h => h.cellOf (by rw [hW0]; exact ((Ext.refl _).alloc _).cellOf (boxed 2 rfl (by simp)))
  have e03 : ∀ w', (Ext W0) w' → w'.cell? ⟨w.heap.size, 3, none⟩ = some (.int .i64 d) := fun w' h => h.cellOf (by rw [hW0]; exact ((Ext.refl _).alloc _).cellOf (boxed 3 rfl (by simp)))
  have e04 : ∀ w', (Ext W0) w' → w'.cell? ⟨w.heap.size, 4, none⟩ = some (.int .i64 n) := fun w' h => h.cellOf (by rw [hW0]; exact ((Ext.refl _).alloc _).cellOf (boxed 4 rfl (by simp)))
  have e10 : ∀ w', (Ext W0) w' → w'.cell? ⟨w.heap.size + 1, 0, none⟩ = some (.int .i64 p) := fun w' h => h.cellOf (by rw [hW0]; exact boxed 0 rfl (by simp))
  have e11 : ∀ w', (Ext W0) w' → w'.cell? ⟨w.heap.size + 1, 1, none⟩ = some (.int .i64 q) := fun w' h => h.cellOf (by rw [hW0]; exact boxed 1 rfl (by simp))
  have e12 : ∀ w', (Ext W0) w' → w'.cell? ⟨w.heap.size + 1, 2, none⟩ = some (.int .i64 u) := fun w' h => h.cellOf (by rw [hW0]; exact boxed 2 rfl (by simp))
  have e13 : ∀ w', (Ext W0) w' → w'.cell? ⟨w.heap.size + 1, 3, none⟩ = some (.int .i64 v) := fun w' h => h.cellOf (by rw [hW0]; exact boxed 3 rfl (by simp))
  have e14 : ∀ w', (Ext W0) w' → w'.cell? ⟨w.heap.size + 1, 4, none⟩ = some (.int .i64 m) := fun w' h => h.cellOf (by rw [hW0]; exact boxed 4 rfl (by simp))
  go_enter Try.func104, Try.ntmps104
  go_wp2_with fail
  rw [← hW0]
  clear hW0
  refine (PA.out _).mono ?_
  rintro e w1 ⟨rfl, hz⟩
  by_cases hl : L < 0
  · have H := Lib.hid (HY.out hl)
    clear HY HN A1 A2 s0 s1
    go_wp2_with fail
    refine wp_region_held_drew (S := (fun w' => Ext W0 w')) (by kernel_rfl) (by (try dsimp only); first | go_keep | exact (Ext.refl _).drew | exact Res.new2.drew | exact Res.new4.drew | exact ResB.drew (by assumption) | exact ResC.drew (by assumption) | assumption | exact Ext.drew (by assumption) | exact Res.drew (by assumption)) (fun hHeld => ?_)
    refine Ord.K 0 9 ?_
    refine Ord.K 1 10 ?_
    refine Ord.K 2 11 ?_
    (first | (refine Ord.s 3 12 ?_ ?_; rfl; (try simp only [Act.put, Ord.a, Ord.b, Ord.c])) | refine Ord.K 3 12 ?_)
    (first | (refine Ord.s 4 13 ?_ ?_; rfl; (try simp only [Act.put, Ord.a, Ord.b, Ord.c])) | refine Ord.K 4 13 ?_)
    (first | (refine Ord.s 5 14 ?_ ?_; rfl; (try simp only [Act.put, Ord.a, Ord.b, Ord.c])) | refine Ord.K 5 14 ?_)
    (first | (refine Ord.s 6 15 ?_ ?_; rfl; (try simp only [Act.put, Ord.a, Ord.b, Ord.c])) | refine Ord.K 6 15 ?_)
    (first | (refine Ord.s 7 16 ?_ ?_; rfl; (try simp only [Act.put, Ord.a, Ord.b, Ord.c])) | refine Ord.K 7 16 ?_)
    (first | (refine Ord.s 8 17 ?_ ?_; rfl; (try simp only [Act.put, Ord.a, Ord.b, Ord.c])) | refine Ord.K 8 17 ?_)
    (first | (refine Ord.s 9 18 ?_ ?_; rfl; (try simp only [Act.put, Ord.a, Ord.b, Ord.c])) | refine Ord.K 9 18 ?_)
    (first | (refine Ord.s 10 19 ?_ ?_; rfl; (try simp only [Act.put, Ord.a, Ord.b, Ord.c])) | refine Ord.K 10 19 ?_)
    (first | (refine Ord.s 11 20 ?_ ?_; rfl; (try simp only [Act.put, Ord.a, Ord.b, Ord.c])) | (refine wpAnyH_ready (rs := [11]) (by kernel_rfl) (by simp) ?_; refine AllReadyH.cons rfl (fun K hK => ?_) AllReadyH.nil; go_simp; (first | (go_at_call 97; refine (PQ.out _).mono ?_; rintro e w4 ⟨rfl, hy⟩) | (go_at_call 123; refine (PR.out _).mono ?_; rintro e w4 ⟨rfl, rfl⟩)); go_wp2_with fail; (refine hK.out _ _ (by first | assumption | exact Ext.trans (by assumption) hy | exact Res.ext (by assumption) hy | exact ResB.ext (by assumption) hy | exact ResC.ext (by assumption) hy | (go_split_ands; (repeat' apply And.intro) <;> exact Ext.cellOf hy (by assumption))) (fun hHeld => ?_)); clear hK K; (try simp only [Act.put, Ord.a, Ord.b, Ord.c])))
    (first | (refine Ord.s 12 21 ?_ ?_; rfl; (try simp only [Act.put, Ord.a, Ord.b, Ord.c])) | (refine wpAnyH_ready (rs := [12]) (by kernel_rfl) (by simp) ?_; refine AllReadyH.cons rfl (fun K hK => ?_) AllReadyH.nil; go_simp; (first | (go_at_call 97; refine (PQ.out _).mono ?_; rintro e w4 ⟨rfl, hy⟩) | (go_at_call 123; refine (PR.out _).mono ?_; rintro e w4 ⟨rfl, rfl⟩)); go_wp2_with fail; (refine hK.out _ _ (by first | assumption | exact Ext.trans (by assumption) hy | exact Res.ext (by assumption) hy | exact ResB.ext (by assumption) hy | exact ResC.ext (by assumption) hy | (go_split_ands; (repeat' apply And.intro) <;> exact Ext.cellOf hy (by assumption))) (fun hHeld => ?_)); clear hK K; (try simp only [Act.put, Ord.a, Ord.b, Ord.c])))
    (first | (refine Ord.s 13 22 ?_ ?_; rfl; (try simp only [Act.put, Ord.a, Ord.b, Ord.c])) | refine Ord.K 13 22 ?_)
    refine Ord.K 14 23 ?_
    refine Ord.K 15 4 ?_
    refine wpAnyH_done (by kernel_rfl) ?_ _
    go_wp2
    go_ret
    exact ⟨ret_bool H.out, hX.trans (by assumption)⟩
  · have H := Lib.hid (HN.out (by omega))
    have G2 : decide (L < 0) = false := decide_eq_false hl
    clear hl HY HN A1 A2 s0 s1
    go_wp2_with fail
    refine wp_region_held_drew (S := (fun w' => Ext W0 w')) (by kernel_rfl) (by (try dsimp only); first | go_keep | exact (Ext.refl _).drew | exact Res.new2.drew | exact Res.new4.drew | exact ResB.drew (by assumption) | exact ResC.drew (by assumption) | assumption | exact Ext.drew (by assumption) | exact Res.drew (by assumption)) (fun hHeld => ?_)
    refine Ord.K 0 9 ?_
    refine Ord.K 1 10 ?_
    refine Ord.K 2 11 ?_
    (first | (refine Ord.s 3 12 ?_ ?_; rfl; (try simp only [Act.put, Ord.a, Ord.b, Ord.c])) | refine Ord.K 3 12 ?_)
    (first | (refine Ord.s 4 13 ?_ ?_; rfl; (try simp only [Act.put, Ord.a, Ord.b, Ord.c])) | refine Ord.K 4 13 ?_)
    (first | (refine Ord.s 5 14 ?_ ?_; rfl; (try simp only [Act.put, Ord.a, Ord.b, Ord.c])) | refine Ord.K 5 14 ?_)
    (first | (refine Ord.s 6 15 ?_ ?_; rfl; (try simp only [Act.put, Ord.a, Ord.b, Ord.c])) | refine Ord.K 6 15 ?_)
    (first | (refine Ord.s 7 16 ?_ ?_; rfl; (try simp only [Act.put, Ord.a, Ord.b, Ord.c])) | refine Ord.K 7 16 ?_)
    (first | (refine Ord.s 8 17 ?_ ?_; rfl; (try simp only [Act.put, Ord.a, Ord.b, Ord.c])) | refine Ord.K 8 17 ?_)
    (first | (refine Ord.s 9 18 ?_ ?_; rfl; (try simp only [Act.put, Ord.a, Ord.b, Ord.c])) | refine Ord.K 9 18 ?_)
    (first | (refine Ord.s 10 19 ?_ ?_; rfl; (try simp only [Act.put, Ord.a, Ord.b, Ord.c])) | refine Ord.K 10 19 ?_)
    (first | (refine Ord.s 11 20 ?_ ?_; rfl; (try simp only [Act.put, Ord.a, Ord.b, Ord.c])) | (refine wpAnyH_ready (rs := [11]) (by kernel_rfl) (by simp) ?_; refine AllReadyH.cons rfl (fun K hK => ?_) AllReadyH.nil; go_simp; (first | (go_at_call 97; refine (PQ.out _).mono ?_; rintro e w4 ⟨rfl, hy⟩)); go_wp2_with fail; (refine hK.out _ _ (by first | assumption | exact Ext.trans (by assumption) hy | exact Res.ext (by assumption) hy | exact ResB.ext (by assumption) hy | exact ResC.ext (by assumption) hy | (go_split_ands; (repeat' apply And.intro) <;> exact Ext.cellOf hy (by assumption))) (fun hHeld => ?_)); clear hK K; (try simp only [Act.put, Ord.a, Ord.b, Ord.c])))
    (first | (refine Ord.s 12 21 ?_ ?_; rfl; (try simp only [Act.put, Ord.a, Ord.b, Ord.c])) | (refine wpAnyH_ready (rs := [12]) (by kernel_rfl) (by simp) ?_; refine AllReadyH.cons rfl (fun K hK => ?_) AllReadyH.nil; go_simp; (first | (go_at_call 97; refine (PQ.out _).mono ?_; rintro e w4 ⟨rfl, hy⟩)); go_wp2_with fail; (refine hK.out _ _ (by first | assumption | exact Ext.trans (by assumption) hy | exact Res.ext (by assumption) hy | exact ResB.ext (by assumption) hy | exact ResC.ext (by assumption) hy | (go_split_ands; (repeat' apply And.intro) <;> exact Ext.cellOf hy (by assumption))) (fun hHeld => ?_)); clear hK K; (try simp only [Act.put, Ord.a, Ord.b, Ord.c])))
    (first | (refine Ord.s 13 22 ?_ ?_; rfl; (try simp only [Act.put, Ord.a, Ord.b, Ord.c])) | refine Ord.K 13 22 ?_)
    refine Ord.K 14 23 ?_
    refine Ord.K 15 4 ?_
    refine wpAnyH_done (by kernel_rfl) ?_ _
    go_wp2
    go_ret
    exact ⟨ret_bool H.out, hX.trans (by assumption)⟩

/-- The relation of two hulls: is the second clear astern of the first, is the first clear astern of the second? -/
def ovN (x y : Bool) : Int := (if x = true then 1 else 0) + (if y = true then 2 else 0)

set_option maxHeartbeats 1000000 in
theorem overlapS_any (a b c d n p q u v m : Int) (w : World) (h : hlB a b c d n = true) (g : hlB p q u v m = true) : Calls Try.prog 85 #[Hv a b c d n, Hv p q u v m] w fun e w' => e = .returned (.int .i64 (ovN (caB a b c d n p q) (caB p q u v m a b))) ∧ Ext w w' := by
  have PA := Lib.hid (fun w => clearS_any a b c d n p q u v m w h (hlB_yes g).1.1 (hlB_yes g).1.2)
  have PB := Lib.hid (fun w => clearS_any p q u v m a b c d n w g (hlB_yes h).1.1 (hlB_yes h).1.2)
  generalize caB a b c d n p q = X at *
  generalize caB p q u v m a b = Y at *
  clear h g
  obtain ⟨W0, hW0⟩ : ∃ W0, W0 = (w.alloc (.cells #[.int .i64 a, .int .i64 b, .int .i64 c, .int .i64 d, .int .i64 n] 39)).alloc (.cells #[.int .i64 p, .int .i64 q, .int .i64 u, .int .i64 v, .int .i64 m] 39) := ⟨_, rfl⟩
  have hX : Ext w W0 := hW0 ▸ (((Ext.refl w).alloc _).alloc _)
  have hs0 : W0.heap.size = w.heap.size + 1 + 1 := by rw [hW0]; simp
  have e00 : ∀ w', (Ext W0) w' → w'.cell? ⟨w.heap.size, 0, none⟩ = some (.int .i64 a) := fun w' h => h.cellOf (by rw [hW0]; exact ((Ext.refl _).alloc _).cellOf (boxed 0 rfl (by simp)))
  have e01 : ∀ w', (Ext W0) w' → w'.cell? ⟨w.heap.size, 1, none⟩ = some (.int .i64 b) := fun w' h => h.cellOf (by rw [hW0]; exact ((Ext.refl _).alloc _).cellOf (boxed 1 rfl (by simp)))
  have e02 : ∀ w', (Ext W0) w' → w'.cell? ⟨w.heap.size, 2, none⟩ = some (.int .i64 c) := fun w' h => h.cellOf (by rw [hW0]; exact ((Ext.refl _).alloc _).cellOf (boxed 2 rfl (by simp)))
  have e03 : ∀ w', (Ext W0) w' → w'.cell? ⟨w.heap.size, 3, none⟩ = some (.int .i64 d) := fun w' h => h.cellOf (by rw [hW0]; exact ((Ext.refl _).alloc _).cellOf (boxed 3 rfl (by simp)))
  have e04 : ∀ w', (Ext W0) w' → w'.cell? ⟨w.heap.size, 4, none⟩ = some (.int .i64 n) := fun w' h => h.cellOf (by rw [hW0]; exact ((Ext.refl _).alloc _).cellOf (boxed 4 rfl (by simp)))
  have e10 : ∀ w', (Ext W0) w' → w'.cell? ⟨w.heap.size + 1, 0, none⟩ = some (.int .i64 p) := fun w' h => h.cellOf (by rw [hW0]; exact boxed 0 rfl (by simp))
  have e11 : ∀ w', (Ext W0) w' → w'.cell? ⟨w.heap.size + 1, 1, none⟩ = some (.int .i64 q) := fun w' h => h.cellOf (by rw [hW0]; exact boxed 1 rfl (by simp))
  have e12 : ∀ w', (Ext W0) w' → w'.cell? ⟨w.heap.size + 1, 2, none⟩ = some (.int .i64 u) := fun w' h => h.cellOf (by rw [hW0]; exact boxed 2 rfl (by simp))
  have e13 : ∀ w', (Ext W0) w' → w'.cell? ⟨w.heap.size + 1, 3, none⟩ = some (.int .i64 v) := fun w' h => h.cellOf (by rw [hW0]; exact boxed 3 rfl (by simp))
  have e14 : ∀ w', (Ext W0) w' → w'.cell? ⟨w.heap.size + 1, 4, none⟩ = some (.int .i64 m) := fun w' h => h.cellOf (by rw [hW0]; exact boxed 4 rfl (by simp))
  go_enter Try.func85, Try.ntmps85
  go_wp2_with fail
  rw [← hW0]
  clear hW0
  refine (PA.out _).mono ?_
  rintro e w1 ⟨rfl, hz⟩
  have g00 := e00 w1 hz; have g01 := e01 w1 hz; have g02 := e02 w1 hz; have g03 := e03 w1 hz; have g04 := e04 w1 hz
  have g10 := e10 w1 hz; have g11 := e11 w1 hz; have g12 := e12 w1 hz; have g13 := e13 w1 hz; have g14 := e14 w1 hz
  cases X <;> (
    go_wp2_with fail
    refine (PB.out _).mono ?_
    rintro e w2 ⟨rfl, hy⟩
    cases Y <;> (
      go_wp2
      go_ret
      exact ⟨rfl, hX.trans (hz.trans hy)⟩))

end Go.Proofs.Ytcangdcakgcpaaa.Hul
