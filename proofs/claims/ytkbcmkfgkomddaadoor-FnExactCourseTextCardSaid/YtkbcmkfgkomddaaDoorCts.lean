import Derived.Test.YtkbcmkfgkomddaaDoorCtw
import Derived.Test.YtkbcmkfgkomddaaDoorCrs2
import Derived.Test.YtkbcmkfgkomddaaDoorMky
import Derived.Lib.Join
namespace Go.Proofs.YtkbcmkfgkomddaaDoor.Crs
open Go.ChangeShapes Go.WideShapes Go.ChangeAt Go.RowKit Go.PlainAid
open Go.Proofs.YtkbcmkfgkomddaaDoor.Num Go.Proofs.YtkbcmkfgkomddaaDoor.Kit Go.Proofs.YtkbcmkfgkomddaaDoor.Pts Go.Proofs.YtkbcmkfgkomddaaDoor.Seg Go.Proofs.YtkbcmkfgkomddaaDoor.Txt
set_option linter.unusedVariables false
set_option linter.unusedSimpArgs false
def tlW (ws : List (List UInt8)) : List UInt8 := ws.flatMap fun x => 32 :: x
theorem tl_app (a b : List (List UInt8)) : tlW (a ++ b) = tlW a ++ tlW b := by simp [tlW]
theorem join_tl (x : List UInt8) (r : List (List UInt8)) : Lib.join (x :: r) [32] = x ++ tlW r := by
  rw [Lib.join_cons]
  congr 1
def ctS (l k : L4) (ms : List M5) : List UInt8 := wStart ++ tlW ([Lib.itoa l.a, Lib.itoa l.b, Lib.itoa l.c, Lib.itoa l.d] ++ ms.flatMap maW ++ liW wFinish k)
theorem ct_join (l k : L4) (ms : List M5) : Lib.join (wdS l k ms) [32] = ctS l k ms := by
  unfold wdS ctS
  rw [show liW wStart l = wStart :: [Lib.itoa l.a, Lib.itoa l.b, Lib.itoa l.c, Lib.itoa l.d] from rfl]
  rw [List.append_assoc, List.cons_append, join_tl, List.append_assoc]
theorem itoa_le {n : Int} (h : Rg n) : (Lib.itoa n).length ≤ 21 := Lib.itoa_length_le n (by have := h.1; omega) (by have := h.2; omega)
theorem tl_len : ∀ ws : List (List UInt8), (∀ x ∈ ws, x.length ≤ 30) → (tlW ws).length ≤ 31 * ws.length
  | [], _ => by simp [tlW]
  | a :: r, h => by
    have h1 := h a (by simp)
    have ih := tl_len r (fun x hx => h x (by simp [hx]))
    unfold tlW at ih ⊢
    simp only [List.flatMap_cons, List.length_append, List.length_cons] at ih ⊢
    omega
theorem side_le (s : Int) : (sideW s).length ≤ 9 := by unfold sideW; split <;> simp
theorem li_le {w : List UInt8} {l : L4} (hw : w.length ≤ 30) (h : RgL l) : ∀ x ∈ liW w l, x.length ≤ 30 := fun x hx => by
  unfold liW at hx
  simp only [List.mem_cons, List.not_mem_nil, or_false] at hx
  rcases hx with rfl | rfl | rfl | rfl | rfl
  · exact hw
  · have := itoa_le h.1; omega
  · have := itoa_le h.2.1; omega
  · have := itoa_le h.2.2.1; omega
  · have := itoa_le h.2.2.2; omega
theorem ma_le {m : M5} (h : RgM m) (hn : m.n.size ≤ 30) : ∀ x ∈ maW m, x.length ≤ 30 := fun x hx => by
  unfold maW at hx
  simp only [List.mem_cons, List.not_mem_nil, or_false] at hx
  rcases hx with rfl | rfl | rfl | rfl | rfl | rfl
  · simp
  · rw [Array.length_toList]; exact hn
  · have := itoa_le h.1; omega
  · have := itoa_le h.2.1; omega
  · have := side_le m.s; omega
  · have := itoa_le h.2.2; omega
theorem cr_rg {l k : L4} {ms : List M5} (h : crB l k ms = true) : RgL l ∧ RgL k ∧ ∀ i, i < ms.length → RgM (mk ms i) ∧ (mk ms i).n.size ≤ 30 ∧ 1 ≤ (mk ms i).s ∧ (mk ms i).s ≤ 2 ∧ 0 ≤ (mk ms i).z := by
  have h' := h
  unfold crB at h'
  simp only [Bool.and_eq_true] at h'
  obtain ⟨v1, v2⟩ := pv_lines h'.2.2.1
  obtain ⟨⟨a1, a2, a3, a4⟩, _⟩ := sgB_yes v1
  obtain ⟨⟨b1, b2, b3, b4⟩, _⟩ := sgB_yes v2
  refine ⟨⟨a1, a2, a3, a4⟩, ⟨b1, b2, b3, b4⟩, fun i hi => ?_⟩
  have m := cr_mk h hi
  obtain ⟨⟨c1, c2⟩, c3, c4, c5⟩ := mk_yes m
  have hn : (mk ms i).n.size ≤ 8 := by
    unfold mkB nmB at m
    simp only [Bool.and_eq_true, decide_eq_true_eq] at m
    exact m.1.2.1
  have z1 : -1000000 ≤ (mk ms i).z := by omega
  have z2 : (mk ms i).z ≤ 1000000 := by omega
  exact ⟨⟨c1, c2, z1, z2⟩, by omega, by omega, by omega, by omega⟩
theorem signed_any (n : Int) (w : World) (h : Rg n) : Calls Tryd.prog 43 #[.int .i64 n] w fun e w' => e = .returned (St (Lib.itoa n)) ∧ Ext w w' := by
  obtain ⟨h0, h1⟩ := h
  by_cases hn : n < 0
  · obtain ⟨u, rfl⟩ : ∃ u : Nat, n = -(u : Int) := ⟨n.natAbs, by omega⟩
    have H := Lib.hid (show Lib.itoa (-(u : Int)) = 45 :: Lib.decDigits u from Lib.itoa_neg u (by omega))
    have T0 : IntKind.i64.wrap (u : Int) = (u : Int) := IntWalk.i64_in _ (by omega)
    have K := Lib.hid (fun w => number_any 18 (u : Int) w (by omega) (by omega) (by omega))
    have hd : ¬ 9223372036854775807 < 1 + (Lib.decDigits u).length := by have := dec_len u (by omega); omega
    have hu : decide (-(u : Int) < 0) = true := decide_eq_true hn
    have hu2 : 0 < u := by omega
    go_enter Tryd.func43, Tryd.ntmps43
    go_wp2_with (go_at_call 25; refine (K.out _).mono ?_; rintro e w1 ⟨rfl, hx⟩)
    go_ret
    exact ⟨cat_st (by rw [H.out]; simp), hx⟩
  · obtain ⟨u, rfl⟩ : ∃ u : Nat, n = u := ⟨n.toNat, by omega⟩
    have H := Lib.hid (show Lib.itoa (u : Int) = Lib.decDigits u from Lib.itoa_nonneg u)
    have K := Lib.hid (fun w => number_any 18 (u : Int) w (by omega) (by omega) (by omega))
    have hu : ¬ ((u : Int) < 0) := by omega
    go_enter Tryd.func43, Tryd.ntmps43
    go_wp2_with (go_at_call 25; refine (K.out _).mono ?_; rintro e w1 ⟨rfl, hx⟩)
    go_ret
    exact ⟨st_eq H.out, hx⟩
set_option maxRecDepth 100000 in
set_option maxHeartbeats 4000000 in
theorem pointText_any (x y : Int) (w : World) (hx : Rg x) (hy : Rg y) : Calls Tryd.prog 24 #[Pt x y] w fun e w' => e = .returned (St (tlW [Lib.itoa x, Lib.itoa y])) ∧ Ext w w' := by
  obtain ⟨W0, hW0⟩ : ∃ W0, W0 = w.alloc (.cells #[.int .i64 x, .int .i64 y] 31) := ⟨_, rfl⟩
  have HW := Lib.hid (show Ext w W0 from hW0 ▸ (Ext.refl w).alloc _)
  have e0 : ∀ w', Ext W0 w' → w'.cell? ⟨w.heap.size, 0, none⟩ = some (.int .i64 x) := fun w' h => h.cellOf (hW0 ▸ boxed 0 rfl rfl)
  have e1 : ∀ w', Ext W0 w' → w'.cell? ⟨w.heap.size, 1, none⟩ = some (.int .i64 y) := fun w' h => h.cellOf (hW0 ▸ boxed 1 rfl rfl)
  have hr := Ext.refl W0
  have lx := itoa_le hx
  have ly := itoa_le hy
  have KX := Lib.hid (fun w => signed_any x w hx)
  have KY := Lib.hid (fun w => signed_any y w hy)
  generalize Lib.itoa x = X at *
  generalize Lib.itoa y = Y at *
  have h1 : ¬ 9223372036854775807 < 1 + X.length := by omega
  have h2 : ¬ 9223372036854775807 < 1 + X.length + 1 := by omega
  have h3 : ¬ 9223372036854775807 < 1 + X.length + 1 + Y.length := by omega
  have HR := Lib.hid (show tlW [X, Y] = [32] ++ X ++ [32] ++ Y by simp [tlW])
  clear hx hy lx ly
  go_enter Tryd.func24, Tryd.ntmps24
  go_wp2_with fail
  rw [← hW0]
  clear hW0
  refine wp_region_held_drew (S := (fun w' => Ext W0 w')) (by kernel_rfl) (by (try dsimp only); first | go_keep | exact (Ext.refl _).drew | exact Res.new2.drew | exact Res.new4.drew | exact ResB.drew (by assumption) | exact ResC.drew (by assumption) | assumption | exact Ext.drew (by assumption) | exact Res.drew (by assumption)) (fun hHeld => ?_)
  refine Ord.K 0 3 ?_
  refine Ord.K 1 4 ?_
  refine Ord.K 5 8 ?_
  refine Ord.K 6 9 ?_
  (refine wpAnyH_ready (rs := [2]) (by kernel_rfl) (by simp) ?_; refine AllReadyH.cons rfl (fun K hK => ?_) AllReadyH.nil; go_simp; (first | (go_at_call 43; with_reducible refine (KX.out _).mono ?_; rintro e w3 ⟨rfl, hy⟩) | (go_at_call 43; with_reducible refine (KY.out _).mono ?_; rintro e w4 ⟨rfl, hy⟩)); go_wp2_with fail; (refine hK.out _ _ (by first | assumption | exact Ext.trans (by assumption) hy | exact Res.ext (by assumption) hy | exact ResB.ext (by assumption) hy | exact ResC.ext (by assumption) hy | (go_split_ands; (repeat' apply And.intro) <;> exact Ext.cellOf hy (by assumption))) (fun hHeld => ?_)); clear hK K; (try simp only [Act.put, Ord.a, Ord.b, Ord.c]))
  refine Ord.K 3 6 ?_
  refine Ord.K 4 7 ?_
  (refine wpAnyH_ready (rs := [7]) (by kernel_rfl) (by simp) ?_; refine AllReadyH.cons rfl (fun K hK => ?_) AllReadyH.nil; go_simp; (first | (go_at_call 43; with_reducible refine (KX.out _).mono ?_; rintro e w3 ⟨rfl, hy⟩) | (go_at_call 43; with_reducible refine (KY.out _).mono ?_; rintro e w4 ⟨rfl, hy⟩)); go_wp2_with fail; (refine hK.out _ _ (by first | assumption | exact Ext.trans (by assumption) hy | exact Res.ext (by assumption) hy | exact ResB.ext (by assumption) hy | exact ResC.ext (by assumption) hy | (go_split_ands; (repeat' apply And.intro) <;> exact Ext.cellOf hy (by assumption))) (fun hHeld => ?_)); clear hK K; (try simp only [Act.put, Ord.a, Ord.b, Ord.c]))
  refine Ord.K 8 11 ?_
  refine Ord.K 9 2 ?_
  refine wpAnyH_done (by kernel_rfl) ?_ _
  clear h1 h2 h3
  go_wp2
  go_ret
  exact ⟨cat_st (by rw [HR.out]; simp [ByteArray.data_append]), HW.out.trans hHeld⟩
def ctP (l : L4) (ms : List M5) (j : Nat) : List UInt8 := wStart ++ tlW ([Lib.itoa l.a, Lib.itoa l.b, Lib.itoa l.c, Lib.itoa l.d] ++ (ms.take j).flatMap maW)
theorem cp_zero (l : L4) (ms : List M5) : ctP l ms 0 = wStart ++ (tlW [Lib.itoa l.a, Lib.itoa l.b] ++ tlW [Lib.itoa l.c, Lib.itoa l.d]) := by simp [ctP, tlW]
theorem cp_next (l : L4) {ms : List M5} {j : Nat} (h : j < ms.length) : ctP l ms (j + 1) = ctP l ms j ++ tlW (maW (mk ms j)) := by
  unfold ctP
  rw [List.take_succ_eq_append_getElem h, List.flatMap_append, ← List.append_assoc, tl_app, List.append_assoc wStart]
  simp [mk, h]
theorem cp_all (l k : L4) (ms : List M5) : ctS l k ms = ctP l ms ms.length ++ tlW (liW wFinish k) := by
  unfold ctS ctP
  rw [List.take_length, tl_app, List.append_assoc]
theorem ms_le : ∀ (xs : List M5), (∀ m ∈ xs, ∀ x ∈ maW m, x.length ≤ 30) → (∀ x ∈ xs.flatMap maW, x.length ≤ 30) ∧ (xs.flatMap maW).length = 6 * xs.length
  | [], _ => ⟨by simp, rfl⟩
  | a :: r, h => by
    obtain ⟨h1, h2⟩ := ms_le r (fun m hm => h m (by simp [hm]))
    refine ⟨fun x hx => ?_, ?_⟩
    · rw [List.flatMap_cons] at hx
      rcases List.mem_append.1 hx with e | e
      · exact h a (by simp) x e
      · exact h1 x e
    · rw [List.flatMap_cons, List.length_append, h2, ma_len, List.length_cons]; omega
theorem cp_len {l : L4} {ms : List M5} (hl : RgL l) (hm : ∀ m ∈ ms, ∀ x ∈ maW m, x.length ≤ 30) (h8 : ms.length ≤ 8) (j : Nat) : (ctP l ms j).length ≤ 2000 := by
  obtain ⟨h1, h2⟩ := ms_le (ms.take j) (fun m q => hm m (List.mem_of_mem_take q))
  have h3 : (ms.take j).length ≤ 8 := by rw [List.length_take]; omega
  have h4 := tl_len ([Lib.itoa l.a, Lib.itoa l.b, Lib.itoa l.c, Lib.itoa l.d] ++ (ms.take j).flatMap maW) (fun x hx => by
    rcases List.mem_append.1 hx with e | e
    · exact li_le (w := wStart) (by simp) hl x (by unfold liW; exact List.mem_cons_of_mem _ e)
    · exact h1 x e)
  unfold ctP
  rw [List.length_append]
  rw [List.length_append, h2] at h4
  simp only [List.length_cons, List.length_nil] at h4 ⊢
  omega
theorem st_of {b : ByteArray} {l : List UInt8} (h : l = b.data.toList) : Value.string b = St l := by subst h; exact (st_name b).symm
def RelTx (W : World) (l : L4) (ms : List M5) (s i : Value) (wr : World) : Prop := ∃ j : Nat, i = .int .i64 j ∧ j ≤ ms.length ∧ s = St (ctP l ms j) ∧ Ext W wr
set_option maxRecDepth 100000 in
set_option maxHeartbeats 8000000 in
theorem l04Text_any (l k : L4) (a : Option Addr) (cap : Nat) (ms : List M5) (w : World) (hf : Mks w a ms) (hq : crB l k ms = true) (h8 : ms.length ≤ 8) :
    Calls Tryd.prog 11 #[CV l k (.slice a ms.length cap)] w fun e w' => e = .returned (St (ctS l k ms)) ∧ Ext w w' := by
  obtain ⟨hl, hk, hm⟩ := cr_rg hq
  have CL := Lib.hid (fun j => cp_len hl (fun m hmm => by
    obtain ⟨i, hi, e⟩ := List.mem_iff_getElem.1 hmm
    have e2 : mk ms i = m := by rw [← e]; simp [mk, hi]
    rw [← e2]; exact ma_le (hm i hi).1 (hm i hi).2.1) h8 j)
  obtain ⟨W0, hW0⟩ : ∃ W0, W0 = w.alloc (.cells (cellsC l k (.slice a ms.length cap)).toArray 36) := ⟨_, rfl⟩
  have HW := Lib.hid (show Ext w W0 from hW0 ▸ (Ext.refl w).alloc _)
  have BB := Lib.hid (show Box W0 w.heap.size (cellsC l k (.slice a ms.length cap)) from hW0 ▸ Box.new rfl)
  have HF := Lib.hid (hf.ext HW.out)
  have HM := Lib.hid hm
  have KL1 := Lib.hid (fun w => pointText_any l.a l.b w hl.1 hl.2.1)
  have KL2 := Lib.hid (fun w => pointText_any l.c l.d w hl.2.2.1 hl.2.2.2)
  have KK1 := Lib.hid (fun w => pointText_any k.a k.b w hk.1 hk.2.1)
  have KK2 := Lib.hid (fun w => pointText_any k.c k.d w hk.2.2.1 hk.2.2.2)
  have HZ := Lib.hid (cp_zero l ms)
  have HA := Lib.hid (cp_all l k ms)
  have L1 := tl_len [Lib.itoa l.a, Lib.itoa l.b] (fun x hx => by simp at hx; rcases hx with rfl | rfl; (have := itoa_le hl.1; omega); (have := itoa_le hl.2.1; omega))
  have L2 := tl_len [Lib.itoa l.c, Lib.itoa l.d] (fun x hx => by simp at hx; rcases hx with rfl | rfl; (have := itoa_le hl.2.2.1; omega); (have := itoa_le hl.2.2.2; omega))
  have L3 := tl_len [Lib.itoa k.a, Lib.itoa k.b] (fun x hx => by simp at hx; rcases hx with rfl | rfl; (have := itoa_le hk.1; omega); (have := itoa_le hk.2.1; omega))
  have L4 := tl_len [Lib.itoa k.c, Lib.itoa k.d] (fun x hx => by simp at hx; rcases hx with rfl | rfl; (have := itoa_le hk.2.2.1; omega); (have := itoa_le hk.2.2.2; omega))
  have HF2 := Lib.hid (show tlW (liW wFinish k) = [32, 102, 105, 110, 105, 115, 104] ++ (tlW [Lib.itoa k.a, Lib.itoa k.b] ++ tlW [Lib.itoa k.c, Lib.itoa k.d]) by simp [tlW, liW])
  simp only [List.length_cons, List.length_nil] at L1 L2 L3 L4
  generalize tlW [Lib.itoa l.a, Lib.itoa l.b] = P1 at *
  generalize tlW [Lib.itoa l.c, Lib.itoa l.d] = P2 at *
  generalize tlW [Lib.itoa k.a, Lib.itoa k.b] = P3 at *
  generalize tlW [Lib.itoa k.c, Lib.itoa k.d] = P4 at *
  generalize tlW (liW wFinish k) = PF at *
  have g1 : ¬ 9223372036854775807 < 5 + P1.length := by omega
  have g2 : ¬ 9223372036854775807 < 5 + P1.length + P2.length := by omega
  have e0 : ∀ w', Ext W0 w' → w'.cell? ⟨w.heap.size, 0, none⟩ = some (.int .i64 l.a) := fun w' h => h.cellOf (BB.out 0 _ rfl).1
  have e1 : ∀ w', Ext W0 w' → w'.cell? ⟨w.heap.size, 1, none⟩ = some (.int .i64 l.b) := fun w' h => h.cellOf (BB.out 1 _ rfl).1
  have e2 : ∀ w', Ext W0 w' → w'.cell? ⟨w.heap.size, 2, none⟩ = some (.int .i64 l.c) := fun w' h => h.cellOf (BB.out 2 _ rfl).1
  have e3 : ∀ w', Ext W0 w' → w'.cell? ⟨w.heap.size, 3, none⟩ = some (.int .i64 l.d) := fun w' h => h.cellOf (BB.out 3 _ rfl).1
  have e8 : ∀ w', Ext W0 w' → w'.cell? ⟨w.heap.size, 8, none⟩ = some (.slice a ms.length cap) := fun w' h => h.cellOf (BB.out 8 _ rfl).1
  clear hf hl hk hm hq
  go_enter Tryd.func11, Tryd.ntmps11
  go_wp2_with fail
  rw [← hW0]
  clear hW0
  refine wp_region_held_drew (S := (fun w' => Ext W0 w')) (by kernel_rfl) (by (try dsimp only); first | go_keep | exact (Ext.refl _).drew | exact Res.new2.drew | exact Res.new4.drew | exact ResB.drew (by assumption) | exact ResC.drew (by assumption) | assumption | exact Ext.drew (by assumption) | exact Res.drew (by assumption)) (fun hHeld => ?_)
  refine Ord.K 0 6 ?_
  refine Ord.K 1 7 ?_
  refine Ord.K 2 8 ?_
  refine Ord.K 5 11 ?_
  refine Ord.K 6 12 ?_
  refine Ord.K 7 13 ?_
  (refine wpAnyH_ready (rs := [3]) (by kernel_rfl) (by simp) ?_; refine AllReadyH.cons rfl (fun K hK => ?_) AllReadyH.nil; go_simp; (first | (go_at_call 24; with_reducible refine (KL1.out _).mono ?_; rintro e w3 ⟨rfl, hy⟩) | (go_at_call 24; with_reducible refine (KL2.out _).mono ?_; rintro e w4 ⟨rfl, hy⟩)); go_wp2_with fail; (refine hK.out _ _ (by first | assumption | exact Ext.trans (by assumption) hy | exact Res.ext (by assumption) hy | exact ResB.ext (by assumption) hy | exact ResC.ext (by assumption) hy | (go_split_ands; (repeat' apply And.intro) <;> exact Ext.cellOf hy (by assumption))) (fun hHeld => ?_)); clear hK K; (try simp only [Act.put, Ord.a, Ord.b, Ord.c]))
  refine Ord.K 4 10 ?_
  (refine wpAnyH_ready (rs := [8]) (by kernel_rfl) (by simp) ?_; refine AllReadyH.cons rfl (fun K hK => ?_) AllReadyH.nil; go_simp; (first | (go_at_call 24; with_reducible refine (KL1.out _).mono ?_; rintro e w3 ⟨rfl, hy⟩) | (go_at_call 24; with_reducible refine (KL2.out _).mono ?_; rintro e w4 ⟨rfl, hy⟩)); go_wp2_with fail; (refine hK.out _ _ (by first | assumption | exact Ext.trans (by assumption) hy | exact Res.ext (by assumption) hy | exact ResB.ext (by assumption) hy | exact ResC.ext (by assumption) hy | (go_split_ands; (repeat' apply And.intro) <;> exact Ext.cellOf hy (by assumption))) (fun hHeld => ?_)); clear hK K; (try simp only [Act.put, Ord.a, Ord.b, Ord.c]))
  refine Ord.K 9 15 ?_
  refine Ord.K 10 3 ?_
  refine wpAnyH_done (by kernel_rfl) ?_ _
  have X1 := Lib.hid hHeld
  clear hHeld hy g1 g2 e0 e1 e2 e3
  have SS := Lib.hid (st_of (b := ⟨wStart.toArray⟩ ++ ⟨P1.toArray⟩ ++ ⟨P2.toArray⟩) (l := ctP l ms 0) (by rw [HZ.out]; simp [ByteArray.data_append]))
  have Y1 := Lib.hid (HW.out.trans X1.out)
  go_wp2
  go_loopw [3, 4] (fun s i wr => RelTx W0 l ms s i wr) (fun s i _ => ms.length - (intOf i).toNat)
  case atStart => exact ⟨0, rfl, Nat.zero_le _, SS.out, X1.out⟩
  case round =>
    obtain ⟨j, rfl, hj, rfl, hx⟩ := hrel
    have HX := Lib.hid hx
    have c8 := e8 _ hx
    have lp := CL.out j
    clear hx
    by_cases hj1 : j < ms.length
    · obtain ⟨b, off, rfl, hb⟩ := HF.out.row (by omega)
      obtain ⟨q0, q1, q2, q3, q4⟩ := (hb j hj1).ext HX.out
      have HN := Lib.hid (cp_next l hj1)
      obtain ⟨hrm, hns, hs1, hs2, hz0⟩ := HM.out j hj1
      obtain ⟨m, hmm⟩ : ∃ m, m = mk ms j := ⟨_, rfl⟩
      rw [← hmm] at q0 q1 q2 q3 q4 HN hrm hns hs1 hs2 hz0
      clear hmm hb
      have j0 : (0 : Int) ≤ (j : Int) := by omega
      have j1 : (j : Int) < (ms.length : Int) := by omega
      have T7 : IntKind.i64.wrap ((j : Int) + 1) = (j : Int) + 1 := IntWalk.i64_in _ (by omega)
      have KP := Lib.hid (fun w => pointText_any m.x m.y w hrm.1 hrm.2.1)
      have KN := Lib.hid (fun w => number_any 18 m.z w hz0 (by have := hrm.2.2.2; omega) (by have := hrm.2.2.2; omega))
      have L1 := tl_len [Lib.itoa m.x, Lib.itoa m.y] (fun x hx => by simp at hx; rcases hx with rfl | rfl; (have := itoa_le hrm.1; omega); (have := itoa_le hrm.2.1; omega))
      simp only [List.length_cons, List.length_nil] at L1
      have L2 := dec_len m.z.toNat (by have := hrm.2.2.2; omega)
      have HE := Lib.hid (show tlW (maW m) = [32, 109, 97, 114, 107, 32] ++ m.n.data.toList ++ tlW [Lib.itoa m.x, Lib.itoa m.y] ++ ([32] ++ sideW m.s ++ [32]) ++ Lib.decDigits m.z.toNat by
        obtain ⟨u, hu⟩ : ∃ u : Nat, m.z = u := ⟨m.z.toNat, by omega⟩
        rw [hu, Int.toNat_natCast, ← Lib.itoa_nonneg, ← hu]
        simp [tlW, maW])
      obtain ⟨W2, hW2⟩ : ∃ W2, W2 = wr.alloc (.cells #[.string m.n, .int .i64 m.x, .int .i64 m.y, .int .i64 m.s, .int .i64 m.z] 56) := ⟨_, rfl⟩
      have H2 := Lib.hid (show Ext wr W2 from hW2 ▸ (Ext.refl wr).alloc _)
      have BM := Lib.hid (show Box W2 wr.heap.size [.string m.n, .int .i64 m.x, .int .i64 m.y, .int .i64 m.s, .int .i64 m.z] from hW2 ▸ Box.new rfl)
      have u0 : ∀ w', Ext W2 w' → w'.cell? ⟨wr.heap.size, 0, none⟩ = some (.string m.n) := fun w' h => h.cellOf (BM.out 0 _ rfl).1
      have u1 : ∀ w', Ext W2 w' → w'.cell? ⟨wr.heap.size, 1, none⟩ = some (.int .i64 m.x) := fun w' h => h.cellOf (BM.out 1 _ rfl).1
      have u2 : ∀ w', Ext W2 w' → w'.cell? ⟨wr.heap.size, 2, none⟩ = some (.int .i64 m.y) := fun w' h => h.cellOf (BM.out 2 _ rfl).1
      have u3 : ∀ w', Ext W2 w' → w'.cell? ⟨wr.heap.size, 3, none⟩ = some (.int .i64 m.s) := fun w' h => h.cellOf (BM.out 3 _ rfl).1
      have u4 : ∀ w', Ext W2 w' → w'.cell? ⟨wr.heap.size, 4, none⟩ = some (.int .i64 m.z) := fun w' h => h.cellOf (BM.out 4 _ rfl).1
      go_upto_region 6 with fail
      rw [← hW2]
      clear hW2 q0 q1 q2 q3 q4 c8 hrm hz0
      generalize ctP l ms j = CP at *
      generalize tlW [Lib.itoa m.x, Lib.itoa m.y] = PM at *
      generalize Lib.decDigits m.z.toNat = ZM at *
      obtain ⟨nl, hnl⟩ : ∃ nl, nl = m.n.size := ⟨_, rfl⟩
      have f0 : ¬ 9223372036854775807 < CP.length + 6 := by omega
      have f1 : ¬ 9223372036854775807 < CP.length + 6 + m.n.size := by omega
      have f2 : ¬ 9223372036854775807 < CP.length + 6 + m.n.size + PM.length := by omega
      clear hnl
      rcases (show m.s = 1 ∨ m.s = 2 by omega) with hs | hs
      · have t0 : IntKind.i64.wrap 0 = 0 := rfl
        have f3 : ¬ 9223372036854775807 < CP.length + 6 + m.n.size + PM.length + 6 := by omega
        have f4 : ¬ 9223372036854775807 < CP.length + 6 + m.n.size + PM.length + 6 + ZM.length := by omega
        rw [hs] at u3 HE
        have RR := Lib.hid (st_of (b := ⟨CP.toArray⟩ ++ ⟨#[32, 109, 97, 114, 107, 32]⟩ ++ m.n ++ ⟨PM.toArray⟩ ++ ⟨#[32, 112, 111, 114, 116, 32]⟩ ++ ⟨ZM.toArray⟩) (l := ctP l ms (j + 1)) (by rw [HN.out, HE.out]; simp [ByteArray.data_append, sideW]))
        refine wp_region_held_drew (S := fun w' => Ext W2 w') (by kernel_rfl) (by (try dsimp only); exact Ext.drew (Ext.refl W2)) (fun hHeld => ?_)
        have hE : Ext W2 W2.drew := Ext.drew (Ext.refl W2)
        obtain ⟨V0, hV0⟩ : ∃ V0, V0 = W2.drew := ⟨_, rfl⟩
        rw [← hV0] at hE hHeld ⊢
        clear hV0
        refine Ord.K 0 28 ?_; refine Ord.K 2 30 ?_; refine Ord.K 5 33 ?_; refine Ord.K 10 38 ?_; refine Ord.K 16 44 ?_; refine Ord.K 1 29 ?_; refine Ord.K 3 31 ?_; refine Ord.K 6 34 ?_; refine Ord.K 11 39 ?_; refine Ord.K 17 45 ?_; refine Ord.K 4 32 ?_; refine Ord.K 12 40 ?_
        refine wpAnyH_ready (rs := [7, 9]) (by kernel_rfl) (by simp) ?_
        refine (AllReadyH.cons rfl (fun K hK => ?_) (AllReadyH.cons rfl (fun K hK => ?_) AllReadyH.nil))
        · go_simp
          go_at_call 24
          refine (KP.out _).mono ?_
          rintro e V1 ⟨rfl, hy⟩
          go_wp2_with fail
          have zy := Ext.size hy
          have hE' := hE.trans hy
          refine hK.out _ _ hE' (fun hHeld => ?_)
          clear hK K
          (try simp only [Act.put, Ord.a, Ord.b, Ord.c])
          replace hE := hE'
          clear hE' hy
          refine Ord.K 8 36 ?_
          refine wpAnyH_ready (rs := [9, 18]) (by kernel_rfl) (by simp) ?_
          refine (AllReadyH.cons rfl (fun K hK => ?_) (AllReadyH.cons rfl (fun K hK => ?_) AllReadyH.nil))
          · go_simp
            have hy : Ext V1 (V1.alloc (.cells #[.string ⟨#[32, 112, 111, 114, 116, 32]⟩, .string ⟨#[32, 115, 116, 97, 114, 98, 111, 97, 114, 100, 32]⟩] 9)) := (Ext.refl V1).alloc _
            have hE' := hE.trans hy
            refine hK.out _ _ hE' (fun hHeld => ?_)
            clear hK K
            (try simp only [Act.put, Ord.a, Ord.b, Ord.c])
            have P9 : Box (V1.alloc (.cells #[.string ⟨#[32, 112, 111, 114, 116, 32]⟩, .string ⟨#[32, 115, 116, 97, 114, 98, 111, 97, 114, 100, 32]⟩] 9)) V1.heap.size [.string ⟨#[32, 112, 111, 114, 116, 32]⟩, .string ⟨#[32, 115, 116, 97, 114, 98, 111, 97, 114, 100, 32]⟩] := Box.new (vs := [.string ⟨#[32, 112, 111, 114, 116, 32]⟩, .string ⟨#[32, 115, 116, 97, 114, 98, 111, 97, 114, 100, 32]⟩]) rfl
            have z9 := Ext.size hE
            have y9 : V1.heap.size < (V1.alloc (.cells #[.string ⟨#[32, 112, 111, 114, 116, 32]⟩, .string ⟨#[32, 115, 116, 97, 114, 98, 111, 97, 114, 100, 32]⟩] 9)).heap.size := by simp
            replace hE := hE'
            clear hE' hy
            generalize V1.alloc (.cells #[.string ⟨#[32, 112, 111, 114, 116, 32]⟩, .string ⟨#[32, 115, 116, 97, 114, 98, 111, 97, 114, 100, 32]⟩] 9) = V2 at *
            refine Ord.K 13 41 ?_
            refine wpAnyH_ready (rs := [14, 18]) (by kernel_rfl) (by simp) ?_
            refine (AllReadyH.cons rfl (fun K hK => ?_) (AllReadyH.cons rfl (fun K hK => ?_) AllReadyH.nil))
            · have c14 := (P9 0 _ rfl).1
              go_simp
              refine hK.out _ _ hE (fun hHeld => ?_)
              clear hK K
              (try simp only [Act.put, Ord.a, Ord.b, Ord.c])
              refine Ord.K 15 43 ?_
              refine wpAnyH_ready (rs := [18]) (by kernel_rfl) (by simp) ?_
              refine (AllReadyH.cons rfl (fun K hK => ?_) AllReadyH.nil)
              go_simp
              go_at_call 25
              refine (KN.out _).mono ?_
              rintro e V3 ⟨rfl, hy⟩
              go_wp2_with fail
              have zy := Ext.size hy
              have hE' := hE.trans hy
              refine hK.out _ _ hE' (fun hHeld => ?_)
              clear hK K
              (try simp only [Act.put, Ord.a, Ord.b, Ord.c])
              replace P9 := P9.ext hy
              replace hE := hE'
              clear hE' hy
              refine Ord.K 19 47 ?_; refine Ord.K 20 3 ?_
              refine wpAnyH_done (by kernel_rfl) ?_ _
              go_wp2; go_roundw; (case rel => exact ⟨j + 1, by go_num, by omega, RR.out, HX.out.trans (H2.out.trans hE)⟩); (case measure => simp [intOf]; omega)
            · go_simp
              go_at_call 25
              refine (KN.out _).mono ?_
              rintro e V3 ⟨rfl, hy⟩
              go_wp2_with fail
              have zy := Ext.size hy
              have hE' := hE.trans hy
              refine hK.out _ _ hE' (fun hHeld => ?_)
              clear hK K
              (try simp only [Act.put, Ord.a, Ord.b, Ord.c])
              replace P9 := P9.ext hy
              replace hE := hE'
              clear hE' hy
              refine wpAnyH_ready (rs := [14]) (by kernel_rfl) (by simp) ?_
              refine (AllReadyH.cons rfl (fun K hK => ?_) AllReadyH.nil)
              have c14 := (P9 0 _ rfl).1
              go_simp
              refine hK.out _ _ hE (fun hHeld => ?_)
              clear hK K
              (try simp only [Act.put, Ord.a, Ord.b, Ord.c])
              refine Ord.K 15 43 ?_; refine Ord.K 19 47 ?_; refine Ord.K 20 3 ?_
              refine wpAnyH_done (by kernel_rfl) ?_ _
              go_wp2; go_roundw; (case rel => exact ⟨j + 1, by go_num, by omega, RR.out, HX.out.trans (H2.out.trans hE)⟩); (case measure => simp [intOf]; omega)
          · go_simp
            go_at_call 25
            refine (KN.out _).mono ?_
            rintro e V2 ⟨rfl, hy⟩
            go_wp2_with fail
            have zy := Ext.size hy
            have hE' := hE.trans hy
            refine hK.out _ _ hE' (fun hHeld => ?_)
            clear hK K
            (try simp only [Act.put, Ord.a, Ord.b, Ord.c])
            replace hE := hE'
            clear hE' hy
            refine wpAnyH_ready (rs := [9]) (by kernel_rfl) (by simp) ?_
            refine (AllReadyH.cons rfl (fun K hK => ?_) AllReadyH.nil)
            go_simp
            have hy : Ext V2 (V2.alloc (.cells #[.string ⟨#[32, 112, 111, 114, 116, 32]⟩, .string ⟨#[32, 115, 116, 97, 114, 98, 111, 97, 114, 100, 32]⟩] 9)) := (Ext.refl V2).alloc _
            have hE' := hE.trans hy
            refine hK.out _ _ hE' (fun hHeld => ?_)
            clear hK K
            (try simp only [Act.put, Ord.a, Ord.b, Ord.c])
            have P9 : Box (V2.alloc (.cells #[.string ⟨#[32, 112, 111, 114, 116, 32]⟩, .string ⟨#[32, 115, 116, 97, 114, 98, 111, 97, 114, 100, 32]⟩] 9)) V2.heap.size [.string ⟨#[32, 112, 111, 114, 116, 32]⟩, .string ⟨#[32, 115, 116, 97, 114, 98, 111, 97, 114, 100, 32]⟩] := Box.new (vs := [.string ⟨#[32, 112, 111, 114, 116, 32]⟩, .string ⟨#[32, 115, 116, 97, 114, 98, 111, 97, 114, 100, 32]⟩]) rfl
            have z9 := Ext.size hE
            have y9 : V2.heap.size < (V2.alloc (.cells #[.string ⟨#[32, 112, 111, 114, 116, 32]⟩, .string ⟨#[32, 115, 116, 97, 114, 98, 111, 97, 114, 100, 32]⟩] 9)).heap.size := by simp
            replace hE := hE'
            clear hE' hy
            generalize V2.alloc (.cells #[.string ⟨#[32, 112, 111, 114, 116, 32]⟩, .string ⟨#[32, 115, 116, 97, 114, 98, 111, 97, 114, 100, 32]⟩] 9) = V3 at *
            refine Ord.K 13 41 ?_
            refine wpAnyH_ready (rs := [14]) (by kernel_rfl) (by simp) ?_
            refine (AllReadyH.cons rfl (fun K hK => ?_) AllReadyH.nil)
            have c14 := (P9 0 _ rfl).1
            go_simp
            refine hK.out _ _ hE (fun hHeld => ?_)
            clear hK K
            (try simp only [Act.put, Ord.a, Ord.b, Ord.c])
            refine Ord.K 15 43 ?_; refine Ord.K 19 47 ?_; refine Ord.K 20 3 ?_
            refine wpAnyH_done (by kernel_rfl) ?_ _
            go_wp2; go_roundw; (case rel => exact ⟨j + 1, by go_num, by omega, RR.out, HX.out.trans (H2.out.trans hE)⟩); (case measure => simp [intOf]; omega)
        · go_simp
          have hy : Ext V0 (V0.alloc (.cells #[.string ⟨#[32, 112, 111, 114, 116, 32]⟩, .string ⟨#[32, 115, 116, 97, 114, 98, 111, 97, 114, 100, 32]⟩] 9)) := (Ext.refl V0).alloc _
          have hE' := hE.trans hy
          refine hK.out _ _ hE' (fun hHeld => ?_)
          clear hK K
          (try simp only [Act.put, Ord.a, Ord.b, Ord.c])
          have P9 : Box (V0.alloc (.cells #[.string ⟨#[32, 112, 111, 114, 116, 32]⟩, .string ⟨#[32, 115, 116, 97, 114, 98, 111, 97, 114, 100, 32]⟩] 9)) V0.heap.size [.string ⟨#[32, 112, 111, 114, 116, 32]⟩, .string ⟨#[32, 115, 116, 97, 114, 98, 111, 97, 114, 100, 32]⟩] := Box.new (vs := [.string ⟨#[32, 112, 111, 114, 116, 32]⟩, .string ⟨#[32, 115, 116, 97, 114, 98, 111, 97, 114, 100, 32]⟩]) rfl
          have z9 := Ext.size hE
          have y9 : V0.heap.size < (V0.alloc (.cells #[.string ⟨#[32, 112, 111, 114, 116, 32]⟩, .string ⟨#[32, 115, 116, 97, 114, 98, 111, 97, 114, 100, 32]⟩] 9)).heap.size := by simp
          replace hE := hE'
          clear hE' hy
          generalize V0.alloc (.cells #[.string ⟨#[32, 112, 111, 114, 116, 32]⟩, .string ⟨#[32, 115, 116, 97, 114, 98, 111, 97, 114, 100, 32]⟩] 9) = V1 at *
          refine Ord.K 13 41 ?_
          refine wpAnyH_ready (rs := [7, 14]) (by kernel_rfl) (by simp) ?_
          refine (AllReadyH.cons rfl (fun K hK => ?_) (AllReadyH.cons rfl (fun K hK => ?_) AllReadyH.nil))
          · go_simp
            go_at_call 24
            refine (KP.out _).mono ?_
            rintro e V2 ⟨rfl, hy⟩
            go_wp2_with fail
            have zy := Ext.size hy
            have hE' := hE.trans hy
            refine hK.out _ _ hE' (fun hHeld => ?_)
            clear hK K
            (try simp only [Act.put, Ord.a, Ord.b, Ord.c])
            replace P9 := P9.ext hy
            replace hE := hE'
            clear hE' hy
            refine Ord.K 8 36 ?_
            refine wpAnyH_ready (rs := [14, 18]) (by kernel_rfl) (by simp) ?_
            refine (AllReadyH.cons rfl (fun K hK => ?_) (AllReadyH.cons rfl (fun K hK => ?_) AllReadyH.nil))
            · have c14 := (P9 0 _ rfl).1
              go_simp
              refine hK.out _ _ hE (fun hHeld => ?_)
              clear hK K
              (try simp only [Act.put, Ord.a, Ord.b, Ord.c])
              refine Ord.K 15 43 ?_
              refine wpAnyH_ready (rs := [18]) (by kernel_rfl) (by simp) ?_
              refine (AllReadyH.cons rfl (fun K hK => ?_) AllReadyH.nil)
              go_simp
              go_at_call 25
              refine (KN.out _).mono ?_
              rintro e V3 ⟨rfl, hy⟩
              go_wp2_with fail
              have zy := Ext.size hy
              have hE' := hE.trans hy
              refine hK.out _ _ hE' (fun hHeld => ?_)
              clear hK K
              (try simp only [Act.put, Ord.a, Ord.b, Ord.c])
              replace P9 := P9.ext hy
              replace hE := hE'
              clear hE' hy
              refine Ord.K 19 47 ?_; refine Ord.K 20 3 ?_
              refine wpAnyH_done (by kernel_rfl) ?_ _
              go_wp2; go_roundw; (case rel => exact ⟨j + 1, by go_num, by omega, RR.out, HX.out.trans (H2.out.trans hE)⟩); (case measure => simp [intOf]; omega)
            · go_simp
              go_at_call 25
              refine (KN.out _).mono ?_
              rintro e V3 ⟨rfl, hy⟩
              go_wp2_with fail
              have zy := Ext.size hy
              have hE' := hE.trans hy
              refine hK.out _ _ hE' (fun hHeld => ?_)
              clear hK K
              (try simp only [Act.put, Ord.a, Ord.b, Ord.c])
              replace P9 := P9.ext hy
              replace hE := hE'
              clear hE' hy
              refine wpAnyH_ready (rs := [14]) (by kernel_rfl) (by simp) ?_
              refine (AllReadyH.cons rfl (fun K hK => ?_) AllReadyH.nil)
              have c14 := (P9 0 _ rfl).1
              go_simp
              refine hK.out _ _ hE (fun hHeld => ?_)
              clear hK K
              (try simp only [Act.put, Ord.a, Ord.b, Ord.c])
              refine Ord.K 15 43 ?_; refine Ord.K 19 47 ?_; refine Ord.K 20 3 ?_
              refine wpAnyH_done (by kernel_rfl) ?_ _
              go_wp2; go_roundw; (case rel => exact ⟨j + 1, by go_num, by omega, RR.out, HX.out.trans (H2.out.trans hE)⟩); (case measure => simp [intOf]; omega)
          · have c14 := (P9 0 _ rfl).1
            go_simp
            refine hK.out _ _ hE (fun hHeld => ?_)
            clear hK K
            (try simp only [Act.put, Ord.a, Ord.b, Ord.c])
            refine wpAnyH_ready (rs := [7]) (by kernel_rfl) (by simp) ?_
            refine (AllReadyH.cons rfl (fun K hK => ?_) AllReadyH.nil)
            go_simp
            go_at_call 24
            refine (KP.out _).mono ?_
            rintro e V2 ⟨rfl, hy⟩
            go_wp2_with fail
            have zy := Ext.size hy
            have hE' := hE.trans hy
            refine hK.out _ _ hE' (fun hHeld => ?_)
            clear hK K
            (try simp only [Act.put, Ord.a, Ord.b, Ord.c])
            replace P9 := P9.ext hy
            replace hE := hE'
            clear hE' hy
            refine Ord.K 8 36 ?_; refine Ord.K 15 43 ?_
            refine wpAnyH_ready (rs := [18]) (by kernel_rfl) (by simp) ?_
            refine (AllReadyH.cons rfl (fun K hK => ?_) AllReadyH.nil)
            go_simp
            go_at_call 25
            refine (KN.out _).mono ?_
            rintro e V3 ⟨rfl, hy⟩
            go_wp2_with fail
            have zy := Ext.size hy
            have hE' := hE.trans hy
            refine hK.out _ _ hE' (fun hHeld => ?_)
            clear hK K
            (try simp only [Act.put, Ord.a, Ord.b, Ord.c])
            replace P9 := P9.ext hy
            replace hE := hE'
            clear hE' hy
            refine Ord.K 19 47 ?_; refine Ord.K 20 3 ?_
            refine wpAnyH_done (by kernel_rfl) ?_ _
            go_wp2; go_roundw; (case rel => exact ⟨j + 1, by go_num, by omega, RR.out, HX.out.trans (H2.out.trans hE)⟩); (case measure => simp [intOf]; omega)
      · have t0 : IntKind.i64.wrap 1 = 1 := rfl
        have f3 : ¬ 9223372036854775807 < CP.length + 6 + m.n.size + PM.length + 11 := by omega
        have f4 : ¬ 9223372036854775807 < CP.length + 6 + m.n.size + PM.length + 11 + ZM.length := by omega
        rw [hs] at u3 HE
        have RR := Lib.hid (st_of (b := ⟨CP.toArray⟩ ++ ⟨#[32, 109, 97, 114, 107, 32]⟩ ++ m.n ++ ⟨PM.toArray⟩ ++ ⟨#[32, 115, 116, 97, 114, 98, 111, 97, 114, 100, 32]⟩ ++ ⟨ZM.toArray⟩) (l := ctP l ms (j + 1)) (by rw [HN.out, HE.out]; simp [ByteArray.data_append, sideW]))
        refine wp_region_held_drew (S := fun w' => Ext W2 w') (by kernel_rfl) (by (try dsimp only); exact Ext.drew (Ext.refl W2)) (fun hHeld => ?_)
        have hE : Ext W2 W2.drew := Ext.drew (Ext.refl W2)
        obtain ⟨V0, hV0⟩ : ∃ V0, V0 = W2.drew := ⟨_, rfl⟩
        rw [← hV0] at hE hHeld ⊢
        clear hV0
        refine Ord.K 0 28 ?_; refine Ord.K 2 30 ?_; refine Ord.K 5 33 ?_; refine Ord.K 10 38 ?_; refine Ord.K 16 44 ?_; refine Ord.K 1 29 ?_; refine Ord.K 3 31 ?_; refine Ord.K 6 34 ?_; refine Ord.K 11 39 ?_; refine Ord.K 17 45 ?_; refine Ord.K 4 32 ?_; refine Ord.K 12 40 ?_
        refine wpAnyH_ready (rs := [7, 9]) (by kernel_rfl) (by simp) ?_
        refine (AllReadyH.cons rfl (fun K hK => ?_) (AllReadyH.cons rfl (fun K hK => ?_) AllReadyH.nil))
        · go_simp
          go_at_call 24
          refine (KP.out _).mono ?_
          rintro e V1 ⟨rfl, hy⟩
          go_wp2_with fail
          have zy := Ext.size hy
          have hE' := hE.trans hy
          refine hK.out _ _ hE' (fun hHeld => ?_)
          clear hK K
          (try simp only [Act.put, Ord.a, Ord.b, Ord.c])
          replace hE := hE'
          clear hE' hy
          refine Ord.K 8 36 ?_
          refine wpAnyH_ready (rs := [9, 18]) (by kernel_rfl) (by simp) ?_
          refine (AllReadyH.cons rfl (fun K hK => ?_) (AllReadyH.cons rfl (fun K hK => ?_) AllReadyH.nil))
          · go_simp
            have hy : Ext V1 (V1.alloc (.cells #[.string ⟨#[32, 112, 111, 114, 116, 32]⟩, .string ⟨#[32, 115, 116, 97, 114, 98, 111, 97, 114, 100, 32]⟩] 9)) := (Ext.refl V1).alloc _
            have hE' := hE.trans hy
            refine hK.out _ _ hE' (fun hHeld => ?_)
            clear hK K
            (try simp only [Act.put, Ord.a, Ord.b, Ord.c])
            have P9 : Box (V1.alloc (.cells #[.string ⟨#[32, 112, 111, 114, 116, 32]⟩, .string ⟨#[32, 115, 116, 97, 114, 98, 111, 97, 114, 100, 32]⟩] 9)) V1.heap.size [.string ⟨#[32, 112, 111, 114, 116, 32]⟩, .string ⟨#[32, 115, 116, 97, 114, 98, 111, 97, 114, 100, 32]⟩] := Box.new (vs := [.string ⟨#[32, 112, 111, 114, 116, 32]⟩, .string ⟨#[32, 115, 116, 97, 114, 98, 111, 97, 114, 100, 32]⟩]) rfl
            have z9 := Ext.size hE
            have y9 : V1.heap.size < (V1.alloc (.cells #[.string ⟨#[32, 112, 111, 114, 116, 32]⟩, .string ⟨#[32, 115, 116, 97, 114, 98, 111, 97, 114, 100, 32]⟩] 9)).heap.size := by simp
            replace hE := hE'
            clear hE' hy
            generalize V1.alloc (.cells #[.string ⟨#[32, 112, 111, 114, 116, 32]⟩, .string ⟨#[32, 115, 116, 97, 114, 98, 111, 97, 114, 100, 32]⟩] 9) = V2 at *
            refine Ord.K 13 41 ?_
            refine wpAnyH_ready (rs := [14, 18]) (by kernel_rfl) (by simp) ?_
            refine (AllReadyH.cons rfl (fun K hK => ?_) (AllReadyH.cons rfl (fun K hK => ?_) AllReadyH.nil))
            · have c14 := (P9 1 _ rfl).1
              go_simp
              refine hK.out _ _ hE (fun hHeld => ?_)
              clear hK K
              (try simp only [Act.put, Ord.a, Ord.b, Ord.c])
              refine Ord.K 15 43 ?_
              refine wpAnyH_ready (rs := [18]) (by kernel_rfl) (by simp) ?_
              refine (AllReadyH.cons rfl (fun K hK => ?_) AllReadyH.nil)
              go_simp
              go_at_call 25
              refine (KN.out _).mono ?_
              rintro e V3 ⟨rfl, hy⟩
              go_wp2_with fail
              have zy := Ext.size hy
              have hE' := hE.trans hy
              refine hK.out _ _ hE' (fun hHeld => ?_)
              clear hK K
              (try simp only [Act.put, Ord.a, Ord.b, Ord.c])
              replace P9 := P9.ext hy
              replace hE := hE'
              clear hE' hy
              refine Ord.K 19 47 ?_; refine Ord.K 20 3 ?_
              refine wpAnyH_done (by kernel_rfl) ?_ _
              go_wp2; go_roundw; (case rel => exact ⟨j + 1, by go_num, by omega, RR.out, HX.out.trans (H2.out.trans hE)⟩); (case measure => simp [intOf]; omega)
            · go_simp
              go_at_call 25
              refine (KN.out _).mono ?_
              rintro e V3 ⟨rfl, hy⟩
              go_wp2_with fail
              have zy := Ext.size hy
              have hE' := hE.trans hy
              refine hK.out _ _ hE' (fun hHeld => ?_)
              clear hK K
              (try simp only [Act.put, Ord.a, Ord.b, Ord.c])
              replace P9 := P9.ext hy
              replace hE := hE'
              clear hE' hy
              refine wpAnyH_ready (rs := [14]) (by kernel_rfl) (by simp) ?_
              refine (AllReadyH.cons rfl (fun K hK => ?_) AllReadyH.nil)
              have c14 := (P9 1 _ rfl).1
              go_simp
              refine hK.out _ _ hE (fun hHeld => ?_)
              clear hK K
              (try simp only [Act.put, Ord.a, Ord.b, Ord.c])
              refine Ord.K 15 43 ?_; refine Ord.K 19 47 ?_; refine Ord.K 20 3 ?_
              refine wpAnyH_done (by kernel_rfl) ?_ _
              go_wp2; go_roundw; (case rel => exact ⟨j + 1, by go_num, by omega, RR.out, HX.out.trans (H2.out.trans hE)⟩); (case measure => simp [intOf]; omega)
          · go_simp
            go_at_call 25
            refine (KN.out _).mono ?_
            rintro e V2 ⟨rfl, hy⟩
            go_wp2_with fail
            have zy := Ext.size hy
            have hE' := hE.trans hy
            refine hK.out _ _ hE' (fun hHeld => ?_)
            clear hK K
            (try simp only [Act.put, Ord.a, Ord.b, Ord.c])
            replace hE := hE'
            clear hE' hy
            refine wpAnyH_ready (rs := [9]) (by kernel_rfl) (by simp) ?_
            refine (AllReadyH.cons rfl (fun K hK => ?_) AllReadyH.nil)
            go_simp
            have hy : Ext V2 (V2.alloc (.cells #[.string ⟨#[32, 112, 111, 114, 116, 32]⟩, .string ⟨#[32, 115, 116, 97, 114, 98, 111, 97, 114, 100, 32]⟩] 9)) := (Ext.refl V2).alloc _
            have hE' := hE.trans hy
            refine hK.out _ _ hE' (fun hHeld => ?_)
            clear hK K
            (try simp only [Act.put, Ord.a, Ord.b, Ord.c])
            have P9 : Box (V2.alloc (.cells #[.string ⟨#[32, 112, 111, 114, 116, 32]⟩, .string ⟨#[32, 115, 116, 97, 114, 98, 111, 97, 114, 100, 32]⟩] 9)) V2.heap.size [.string ⟨#[32, 112, 111, 114, 116, 32]⟩, .string ⟨#[32, 115, 116, 97, 114, 98, 111, 97, 114, 100, 32]⟩] := Box.new (vs := [.string ⟨#[32, 112, 111, 114, 116, 32]⟩, .string ⟨#[32, 115, 116, 97, 114, 98, 111, 97, 114, 100, 32]⟩]) rfl
            have z9 := Ext.size hE
            have y9 : V2.heap.size < (V2.alloc (.cells #[.string ⟨#[32, 112, 111, 114, 116, 32]⟩, .string ⟨#[32, 115, 116, 97, 114, 98, 111, 97, 114, 100, 32]⟩] 9)).heap.size := by simp
            replace hE := hE'
            clear hE' hy
            generalize V2.alloc (.cells #[.string ⟨#[32, 112, 111, 114, 116, 32]⟩, .string ⟨#[32, 115, 116, 97, 114, 98, 111, 97, 114, 100, 32]⟩] 9) = V3 at *
            refine Ord.K 13 41 ?_
            refine wpAnyH_ready (rs := [14]) (by kernel_rfl) (by simp) ?_
            refine (AllReadyH.cons rfl (fun K hK => ?_) AllReadyH.nil)
            have c14 := (P9 1 _ rfl).1
            go_simp
            refine hK.out _ _ hE (fun hHeld => ?_)
            clear hK K
            (try simp only [Act.put, Ord.a, Ord.b, Ord.c])
            refine Ord.K 15 43 ?_; refine Ord.K 19 47 ?_; refine Ord.K 20 3 ?_
            refine wpAnyH_done (by kernel_rfl) ?_ _
            go_wp2; go_roundw; (case rel => exact ⟨j + 1, by go_num, by omega, RR.out, HX.out.trans (H2.out.trans hE)⟩); (case measure => simp [intOf]; omega)
        · go_simp
          have hy : Ext V0 (V0.alloc (.cells #[.string ⟨#[32, 112, 111, 114, 116, 32]⟩, .string ⟨#[32, 115, 116, 97, 114, 98, 111, 97, 114, 100, 32]⟩] 9)) := (Ext.refl V0).alloc _
          have hE' := hE.trans hy
          refine hK.out _ _ hE' (fun hHeld => ?_)
          clear hK K
          (try simp only [Act.put, Ord.a, Ord.b, Ord.c])
          have P9 : Box (V0.alloc (.cells #[.string ⟨#[32, 112, 111, 114, 116, 32]⟩, .string ⟨#[32, 115, 116, 97, 114, 98, 111, 97, 114, 100, 32]⟩] 9)) V0.heap.size [.string ⟨#[32, 112, 111, 114, 116, 32]⟩, .string ⟨#[32, 115, 116, 97, 114, 98, 111, 97, 114, 100, 32]⟩] := Box.new (vs := [.string ⟨#[32, 112, 111, 114, 116, 32]⟩, .string ⟨#[32, 115, 116, 97, 114, 98, 111, 97, 114, 100, 32]⟩]) rfl
          have z9 := Ext.size hE
          have y9 : V0.heap.size < (V0.alloc (.cells #[.string ⟨#[32, 112, 111, 114, 116, 32]⟩, .string ⟨#[32, 115, 116, 97, 114, 98, 111, 97, 114, 100, 32]⟩] 9)).heap.size := by simp
          replace hE := hE'
          clear hE' hy
          generalize V0.alloc (.cells #[.string ⟨#[32, 112, 111, 114, 116, 32]⟩, .string ⟨#[32, 115, 116, 97, 114, 98, 111, 97, 114, 100, 32]⟩] 9) = V1 at *
          refine Ord.K 13 41 ?_
          refine wpAnyH_ready (rs := [7, 14]) (by kernel_rfl) (by simp) ?_
          refine (AllReadyH.cons rfl (fun K hK => ?_) (AllReadyH.cons rfl (fun K hK => ?_) AllReadyH.nil))
          · go_simp
            go_at_call 24
            refine (KP.out _).mono ?_
            rintro e V2 ⟨rfl, hy⟩
            go_wp2_with fail
            have zy := Ext.size hy
            have hE' := hE.trans hy
            refine hK.out _ _ hE' (fun hHeld => ?_)
            clear hK K
            (try simp only [Act.put, Ord.a, Ord.b, Ord.c])
            replace P9 := P9.ext hy
            replace hE := hE'
            clear hE' hy
            refine Ord.K 8 36 ?_
            refine wpAnyH_ready (rs := [14, 18]) (by kernel_rfl) (by simp) ?_
            refine (AllReadyH.cons rfl (fun K hK => ?_) (AllReadyH.cons rfl (fun K hK => ?_) AllReadyH.nil))
            · have c14 := (P9 1 _ rfl).1
              go_simp
              refine hK.out _ _ hE (fun hHeld => ?_)
              clear hK K
              (try simp only [Act.put, Ord.a, Ord.b, Ord.c])
              refine Ord.K 15 43 ?_
              refine wpAnyH_ready (rs := [18]) (by kernel_rfl) (by simp) ?_
              refine (AllReadyH.cons rfl (fun K hK => ?_) AllReadyH.nil)
              go_simp
              go_at_call 25
              refine (KN.out _).mono ?_
              rintro e V3 ⟨rfl, hy⟩
              go_wp2_with fail
              have zy := Ext.size hy
              have hE' := hE.trans hy
              refine hK.out _ _ hE' (fun hHeld => ?_)
              clear hK K
              (try simp only [Act.put, Ord.a, Ord.b, Ord.c])
              replace P9 := P9.ext hy
              replace hE := hE'
              clear hE' hy
              refine Ord.K 19 47 ?_; refine Ord.K 20 3 ?_
              refine wpAnyH_done (by kernel_rfl) ?_ _
              go_wp2; go_roundw; (case rel => exact ⟨j + 1, by go_num, by omega, RR.out, HX.out.trans (H2.out.trans hE)⟩); (case measure => simp [intOf]; omega)
            · go_simp
              go_at_call 25
              refine (KN.out _).mono ?_
              rintro e V3 ⟨rfl, hy⟩
              go_wp2_with fail
              have zy := Ext.size hy
              have hE' := hE.trans hy
              refine hK.out _ _ hE' (fun hHeld => ?_)
              clear hK K
              (try simp only [Act.put, Ord.a, Ord.b, Ord.c])
              replace P9 := P9.ext hy
              replace hE := hE'
              clear hE' hy
              refine wpAnyH_ready (rs := [14]) (by kernel_rfl) (by simp) ?_
              refine (AllReadyH.cons rfl (fun K hK => ?_) AllReadyH.nil)
              have c14 := (P9 1 _ rfl).1
              go_simp
              refine hK.out _ _ hE (fun hHeld => ?_)
              clear hK K
              (try simp only [Act.put, Ord.a, Ord.b, Ord.c])
              refine Ord.K 15 43 ?_; refine Ord.K 19 47 ?_; refine Ord.K 20 3 ?_
              refine wpAnyH_done (by kernel_rfl) ?_ _
              go_wp2; go_roundw; (case rel => exact ⟨j + 1, by go_num, by omega, RR.out, HX.out.trans (H2.out.trans hE)⟩); (case measure => simp [intOf]; omega)
          · have c14 := (P9 1 _ rfl).1
            go_simp
            refine hK.out _ _ hE (fun hHeld => ?_)
            clear hK K
            (try simp only [Act.put, Ord.a, Ord.b, Ord.c])
            refine wpAnyH_ready (rs := [7]) (by kernel_rfl) (by simp) ?_
            refine (AllReadyH.cons rfl (fun K hK => ?_) AllReadyH.nil)
            go_simp
            go_at_call 24
            refine (KP.out _).mono ?_
            rintro e V2 ⟨rfl, hy⟩
            go_wp2_with fail
            have zy := Ext.size hy
            have hE' := hE.trans hy
            refine hK.out _ _ hE' (fun hHeld => ?_)
            clear hK K
            (try simp only [Act.put, Ord.a, Ord.b, Ord.c])
            replace P9 := P9.ext hy
            replace hE := hE'
            clear hE' hy
            refine Ord.K 8 36 ?_; refine Ord.K 15 43 ?_
            refine wpAnyH_ready (rs := [18]) (by kernel_rfl) (by simp) ?_
            refine (AllReadyH.cons rfl (fun K hK => ?_) AllReadyH.nil)
            go_simp
            go_at_call 25
            refine (KN.out _).mono ?_
            rintro e V3 ⟨rfl, hy⟩
            go_wp2_with fail
            have zy := Ext.size hy
            have hE' := hE.trans hy
            refine hK.out _ _ hE' (fun hHeld => ?_)
            clear hK K
            (try simp only [Act.put, Ord.a, Ord.b, Ord.c])
            replace P9 := P9.ext hy
            replace hE := hE'
            clear hE' hy
            refine Ord.K 19 47 ?_; refine Ord.K 20 3 ?_
            refine wpAnyH_done (by kernel_rfl) ?_ _
            go_wp2; go_roundw; (case rel => exact ⟨j + 1, by go_num, by omega, RR.out, HX.out.trans (H2.out.trans hE)⟩); (case measure => simp [intOf]; omega)
    · obtain rfl : j = ms.length := by omega
      have j1 : ¬ (ms.length : Int) < (ms.length : Int) := by omega
      generalize ctP l ms ms.length = CP at *
      have g1 : ¬ 9223372036854775807 < CP.length + 7 := by omega
      have g2 : ¬ 9223372036854775807 < CP.length + 7 + P3.length := by omega
      have g3 : ¬ 9223372036854775807 < CP.length + 7 + P3.length + P4.length := by omega
      have e4 : ∀ w', Ext W0 w' → w'.cell? ⟨w.heap.size, 4, none⟩ = some (.int .i64 k.a) := fun w' h => h.cellOf (BB.out 4 _ rfl).1
      have e5 : ∀ w', Ext W0 w' → w'.cell? ⟨w.heap.size, 5, none⟩ = some (.int .i64 k.b) := fun w' h => h.cellOf (BB.out 5 _ rfl).1
      have e6 : ∀ w', Ext W0 w' → w'.cell? ⟨w.heap.size, 6, none⟩ = some (.int .i64 k.c) := fun w' h => h.cellOf (BB.out 6 _ rfl).1
      have e7 : ∀ w', Ext W0 w' → w'.cell? ⟨w.heap.size, 7, none⟩ = some (.int .i64 k.d) := fun w' h => h.cellOf (BB.out 7 _ rfl).1
      clear e8 HM HF CL HZ lp
      go_upto_region 7 with fail
      refine wp_region_held_drew (S := fun w' => Ext W0 w') (by kernel_rfl) (by (try dsimp only); exact Ext.drew HX.out) (fun hHeld => ?_)
      have hE : Ext W0 wr.drew := Ext.drew HX.out
      obtain ⟨V0, hV0⟩ : ∃ V0, V0 = wr.drew := ⟨_, rfl⟩
      rw [← hV0] at hE hHeld ⊢
      clear hV0
      refine Ord.K 0 48 ?_; refine Ord.K 2 50 ?_; refine Ord.K 7 55 ?_; refine Ord.K 1 49 ?_; refine Ord.K 3 51 ?_; refine Ord.K 8 56 ?_; refine Ord.K 4 52 ?_; refine Ord.K 9 57 ?_
      refine wpAnyH_ready (rs := [5]) (by kernel_rfl) (by simp) ?_
      refine (AllReadyH.cons rfl (fun K hK => ?_) AllReadyH.nil)
      go_simp
      go_at_call 24
      refine (KK1.out _).mono ?_
      rintro e V1 ⟨rfl, hy⟩
      go_wp2_with fail
      have zy := Ext.size hy
      have hE' := hE.trans hy
      refine hK.out _ _ hE' (fun hHeld => ?_)
      clear hK K
      (try simp only [Act.put, Ord.a, Ord.b, Ord.c])
      replace hE := hE'
      clear hE' hy
      refine Ord.K 6 54 ?_
      refine wpAnyH_ready (rs := [10]) (by kernel_rfl) (by simp) ?_
      refine (AllReadyH.cons rfl (fun K hK => ?_) AllReadyH.nil)
      go_simp
      go_at_call 24
      refine (KK2.out _).mono ?_
      rintro e V2 ⟨rfl, hy⟩
      go_wp2_with fail
      have zy := Ext.size hy
      have hE' := hE.trans hy
      refine hK.out _ _ hE' (fun hHeld => ?_)
      clear hK K
      (try simp only [Act.put, Ord.a, Ord.b, Ord.c])
      replace hE := hE'
      clear hE' hy
      refine Ord.K 11 59 ?_; refine Ord.K 12 2 ?_
      refine wpAnyH_done (by kernel_rfl) ?_ _
      go_wp2; go_ret; exact ⟨cat_st (by rw [HA.out, HF2.out]; simp [ByteArray.data_append]), HW.out.trans hE⟩
end Go.Proofs.YtkbcmkfgkomddaaDoor.Crs
