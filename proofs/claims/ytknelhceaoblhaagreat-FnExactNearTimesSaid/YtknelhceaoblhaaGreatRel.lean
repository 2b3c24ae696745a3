import Derived.Test.YtknelhceaoblhaaGreatMPts
import Derived.Test.YtknelhceaoblhaaGreatOrd
namespace Go.Proofs.YtknelhceaoblhaaGreat.Seg
open Go.ChangeShapes Go.WideShapes Go.ChangeAt Go.RowKit
open Go.Proofs.YtknelhceaoblhaaGreat.Num Go.Proofs.YtknelhceaoblhaaGreat.Kit Go.Proofs.YtknelhceaoblhaaGreat.Pts
set_option linter.unusedVariables false
set_option linter.unusedSimpArgs false
def sepB (a b c d p q u v : Int) : Bool := decide (sgn (crs a b c d p q) * sgn (crs a b c d u v) < 0)
def onB (a b c d p q : Int) : Bool := (crs a b c d p q == 0) && decide ((a - p) * (c - p) + (b - q) * (d - q) ≤ 0)
theorem sgn_bd (n : Int) : -1 ≤ sgn n ∧ sgn n ≤ 1 := by
  unfold sgn; rcases Int.lt_trichotomy n 0 with h | h | h
  · rw [if_pos h]; decide
  · subst h; decide
  · rw [if_neg (by omega : ¬ n < 0), if_pos h]; decide
theorem sgn0 (n : Int) : sgn n = 0 ↔ n = 0 := by
  unfold sgn; rcases Int.lt_trichotomy n 0 with h | h | h
  · rw [if_pos h]; omega
  · subst h; decide
  · rw [if_neg (by omega : ¬ n < 0), if_pos h]; omega
theorem separates_any (a b c d p q u v : Int) (w : World) (ha : Co a) (hb : Co b) (hc : Co c) (hd : Co d) (hp : Co p) (hq : Co q) (hu : Co u) (hv : Co v) :
    Calls Tryz.prog 218 #[Sg a b c d, Sg p q u v] w fun e w' => e = .returned (.bool (sepB a b c d p q u v)) ∧ Ext w w' := by
  have H := Lib.hid (show sepB a b c d p q u v = decide (sgn (crs a b c d p q) * sgn (crs a b c d u v) < 0) from rfl)
  obtain ⟨m1, m2⟩ := mul_bd 1 1 (sgn_bd (crs a b c d p q)) (sgn_bd (crs a b c d u v))
  simp only [Int.reduceMul, Int.reduceNeg] at m1 m2
  have hw : IntKind.i64.wrap (sgn (crs a b c d p q) * sgn (crs a b c d u v)) = sgn (crs a b c d p q) * sgn (crs a b c d u v) := by rw [IntKind.wrap_i64]; omega
  go_enter Tryz.func218, Tryz.ntmps218
  go_wp2_with fail
  go_region_held3 (fun w' => w'.cell? ⟨w.heap.size, 0, none⟩ = some (.int .i64 a) ∧ w'.cell? ⟨w.heap.size, 1, none⟩ = some (.int .i64 b) ∧ w'.cell? ⟨w.heap.size, 2, none⟩ = some (.int .i64 c) ∧ w'.cell? ⟨w.heap.size, 3, none⟩ = some (.int .i64 d) ∧ w'.cell? ⟨w.heap.size + 1, 0, none⟩ = some (.int .i64 p) ∧ w'.cell? ⟨w.heap.size + 1, 1, none⟩ = some (.int .i64 q) ∧ w'.cell? ⟨w.heap.size + 1, 2, none⟩ = some (.int .i64 u) ∧ w'.cell? ⟨w.heap.size + 1, 3, none⟩ = some (.int .i64 v))
    (first | go_keep | (go_split_ands; refine ⟨?_, ?_, ?_, ?_, ?_, ?_, ?_, ?_⟩ <;> exact Ext.cellOf hx (by assumption)))
    (first | (go_at_call 188; refine (turnTo_any _ _ _ _ _ _ _ (by omega) (by omega) (by omega) (by omega) (by omega) (by omega)).mono ?_; rintro e w1 ⟨rfl, hx⟩) | (go_at_call 230; refine (signOf_any _ _).mono ?_; rintro e w1 ⟨rfl, rfl⟩))
  all_goals
    go_wp2
    go_ret
    exact ⟨ret_bool H.out, (by repeat (first | exact Ext.refl _ | assumption | apply Ext.alloc | apply Ext.drew | (refine Ext.trans ?_ (by assumption)) | (refine Ext.setNew ?_ (by simp <;> omega) _)))⟩
theorem contains_any (a b c d p q : Int) (w : World) (ha : Co a) (hb : Co b) (hc : Co c) (hd : Co d) (hp : Co p) (hq : Co q) :
    Calls Tryz.prog 219 #[Sg a b c d, Pt p q] w fun e w' => e = .returned (.bool (onB a b c d p q)) ∧ Ext w w' := by
  cases h0 : (crs a b c d p q == 0)
  · have H := Lib.hid (show onB a b c d p q = false by unfold onB; rw [h0]; rfl)
    go_enter Tryz.func219, Tryz.ntmps219
    go_wp2_with fail
    refine wp_region_held_drew (S := (fun w' => w'.cell? ⟨w.heap.size, 0, none⟩ = some (.int .i64 a) ∧ w'.cell? ⟨w.heap.size, 1, none⟩ = some (.int .i64 b) ∧ w'.cell? ⟨w.heap.size, 2, none⟩ = some (.int .i64 c) ∧ w'.cell? ⟨w.heap.size, 3, none⟩ = some (.int .i64 d) ∧ w'.cell? ⟨w.heap.size + 1, 0, none⟩ = some (.int .i64 p) ∧ w'.cell? ⟨w.heap.size + 1, 1, none⟩ = some (.int .i64 q))) (by kernel_rfl) (by (try dsimp only); go_keep) (fun hHeld => ?_)
    refine Ord.K 0 5 ?_; refine Ord.K 1 6 ?_
    refine wpAnyH_ready (rs := [2]) (by kernel_rfl) (by simp) ?_
    refine AllReadyH.cons rfl (fun K hK => ?_) AllReadyH.nil
    go_simp
    go_at_call 188
    refine (turnTo_any _ _ _ _ _ _ _ ha hb hc hd hp hq).mono ?_
    rintro e w1 ⟨rfl, hx⟩
    go_wp2_with fail
    refine hK.out _ _ (by go_split_ands; refine ⟨?_, ?_, ?_, ?_, ?_, ?_⟩ <;> exact Ext.cellOf hx (by assumption)) (fun hHeld => ?_)
    clear hK K
    refine Ord.K 3 8 ?_; refine Ord.K 4 9 ?_
    refine Ord.s 5 10 ?_ ?_; rfl; (try simp only [Act.put, Ord.a, Ord.b, Ord.c]); refine Ord.s 6 11 ?_ ?_; rfl; (try simp only [Act.put, Ord.a, Ord.b, Ord.c]); refine Ord.s 7 12 ?_ ?_; rfl; (try simp only [Act.put, Ord.a, Ord.b, Ord.c]); refine Ord.s 8 13 ?_ ?_; rfl; (try simp only [Act.put, Ord.a, Ord.b, Ord.c]); refine Ord.s 9 14 ?_ ?_; rfl; (try simp only [Act.put, Ord.a, Ord.b, Ord.c]); refine Ord.s 10 15 ?_ ?_; rfl; (try simp only [Act.put, Ord.a, Ord.b, Ord.c]); refine Ord.s 11 16 ?_ ?_; rfl; (try simp only [Act.put, Ord.a, Ord.b, Ord.c]); refine Ord.s 12 17 ?_ ?_; rfl; (try simp only [Act.put, Ord.a, Ord.b, Ord.c]); refine Ord.s 13 18 ?_ ?_; rfl; (try simp only [Act.put, Ord.a, Ord.b, Ord.c]); refine Ord.s 14 19 ?_ ?_; rfl; (try simp only [Act.put, Ord.a, Ord.b, Ord.c])
    refine Ord.K 15 20 ?_; refine Ord.K 16 4 ?_
    refine wpAnyH_done (by kernel_rfl) ?_ _
    go_wp2
    go_ret
    exact ⟨ret_bool H.out, (by repeat (first | exact Ext.refl _ | assumption | apply Ext.alloc | apply Ext.drew | (refine Ext.trans ?_ (by assumption)) | (refine Ext.setNew ?_ (by simp <;> omega) _)))⟩
  · have H := Lib.hid (show onB a b c d p q = decide ((a - p) * (c - p) + (b - q) * (d - q) ≤ 0) by unfold onB; rw [h0]; rfl)
    go_enter Tryz.func219, Tryz.ntmps219
    go_wp2_with fail
    go_region_held3 (fun w' => w'.cell? ⟨w.heap.size, 0, none⟩ = some (.int .i64 a) ∧ w'.cell? ⟨w.heap.size, 1, none⟩ = some (.int .i64 b) ∧ w'.cell? ⟨w.heap.size, 2, none⟩ = some (.int .i64 c) ∧ w'.cell? ⟨w.heap.size, 3, none⟩ = some (.int .i64 d) ∧ w'.cell? ⟨w.heap.size + 1, 0, none⟩ = some (.int .i64 p) ∧ w'.cell? ⟨w.heap.size + 1, 1, none⟩ = some (.int .i64 q))
      (first | go_keep | (go_split_ands; refine ⟨?_, ?_, ?_, ?_, ?_, ?_⟩ <;> exact Ext.cellOf hx (by assumption)))
      (first | (go_at_call 188; refine (turnTo_any _ _ _ _ _ _ _ (by omega) (by omega) (by omega) (by omega) (by omega) (by omega)).mono ?_; rintro e w1 ⟨rfl, hx⟩) | (go_at_call 180; refine (vectorTo_any _ _ _ _ _ (by omega) (by omega) (by omega) (by omega)).mono ?_; rintro e w1 ⟨rfl, hx⟩) | (go_at_call 204; refine (dotI_any _ _ _ _ _ (by omega) (by omega) (by omega) (by omega)).mono ?_; rintro e w1 ⟨rfl, hx⟩))
    all_goals
      go_wp2
      go_ret
      exact ⟨ret_bool H.out, (by repeat (first | exact Ext.refl _ | assumption | apply Ext.alloc | apply Ext.drew | (refine Ext.trans ?_ (by assumption)) | (refine Ext.setNew ?_ (by simp <;> omega) _)))⟩
end Go.Proofs.YtknelhceaoblhaaGreat.Seg
