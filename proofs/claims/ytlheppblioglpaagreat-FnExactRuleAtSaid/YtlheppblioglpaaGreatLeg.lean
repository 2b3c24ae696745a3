/- Contracts of the search for the leg at a time (impl, spec), and of the checks ahead of it. -/
import Derived.Test.YtlheppblioglpaaGreatTrk
namespace Go.Proofs.YtlheppblioglpaaGreat.Trk
open Go.ChangeShapes Go.WideShapes Go.ChangeAt Go.RowKit
open Go.Proofs.YtlheppblioglpaaGreat.Num Go.Proofs.YtlheppblioglpaaGreat.Kit Go.Proofs.YtlheppblioglpaaGreat.Pts
set_option linter.unusedVariables false
set_option linter.unusedSimpArgs false

abbrev FxV (f : F3) : Value := Fx f.t f.x f.y

theorem wrap_pred {n : Nat} (h1 : 1 ≤ n) (hm : n ≤ maxLen) : IntKind.i64.wrap ((n : Int) - 1) = (n : Int) - 1 := IntWalk.i64_in _ (by unfold maxLen at hm; omega)
theorem wrap_succ {n : Nat} (hm : n ≤ 1000000) : IntKind.i64.wrap ((n : Int) + 1) = (n : Int) + 1 := IntWalk.i64_in _ (by omega)
/-- A cell behind two new blocks. -/
theorem two_on {w : World} {p : Addr} {v : Value} (h : w.cell? p = some v) : ∀ A B, ((w.alloc A).alloc B).cell? p = some v := fun A B => (((Ext.refl w).alloc A).alloc B).cellOf h
theorem one_on {w : World} {p : Addr} {v : Value} (h : w.cell? p = some v) : ∀ A, (w.alloc A).cell? p = some v := fun A => ((Ext.refl w).alloc A).cellOf h

theorem first_any (a : Option Addr) (cap : Nat) (fs : List F3) (w : World) (hf : Fxs w a fs) (h0 : 0 < fs.length) : Calls Tryz.prog 76 #[Tr (.slice a fs.length cap)] w fun e w' => e = .returned (FxV (fx fs 0)) ∧ Ext w w' := by
  rcases hf.2 with h | ⟨b, off, rfl, hb⟩
  · rw [h] at h0; simp at h0
  obtain ⟨c0, c1, c2⟩ := hb 0 h0
  rw [Nat.zero_mul, Nat.add_zero] at c0 c1 c2
  have i1 : (0 : Int) < (fs.length : Int) := by omega
  replace c0 := two_on c0
  replace c1 := two_on c1
  replace c2 := two_on c2
  clear hb hf
  go_enter Tryz.func76, Tryz.ntmps76
  go_wp2
  exact bodyPost_ret (v := FxV (fx fs 0)) (by simp [results, Tryz.results76, go_sem]) rfl ⟨rfl, (by repeat (first | exact Ext.refl _ | assumption | apply Ext.alloc | apply Ext.drew | (refine Ext.trans ?_ (by assumption)) | (refine Ext.setNew ?_ (by simp <;> omega) _)))⟩

theorem last_any (a : Option Addr) (cap : Nat) (fs : List F3) (w : World) (hf : Fxs w a fs) (h0 : 0 < fs.length) : Calls Tryz.prog 77 #[Tr (.slice a fs.length cap)] w fun e w' => e = .returned (FxV (fx fs (fs.length - 1))) ∧ Ext w w' := by
  have hm := hf.1
  rcases hf.2 with h | ⟨b, off, rfl, hb⟩
  · rw [h] at h0; simp at h0
  obtain ⟨c0, c1, c2⟩ := hb (fs.length - 1) (by omega)
  have i0 : (0 : Int) ≤ (fs.length : Int) - 1 := by omega
  have i2 : (1 : Int) ≤ (fs.length : Int) := by omega
  have i1 : (fs.length : Int) - 1 < (fs.length : Int) := by omega
  have T0 := wrap_pred h0 hm
  have T1 : ((fs.length : Int) - 1).toNat = fs.length - 1 := by omega
  unfold maxLen at hm
  replace c0 := two_on c0
  replace c1 := two_on c1
  replace c2 := two_on c2
  clear hb hf
  go_enter Tryz.func77, Tryz.ntmps77
  go_wp2
  exact bodyPost_ret (v := FxV (fx fs (fs.length - 1))) (by simp [results, Tryz.results77, go_sem]) rfl ⟨rfl, (by repeat (first | exact Ext.refl _ | assumption | apply Ext.alloc | apply Ext.drew | (refine Ext.trans ?_ (by assumption)) | (refine Ext.setNew ?_ (by simp <;> omega) _)))⟩

/-- A field of a fix that a call returned. -/
theorem fieldT (f : F3) (w : World) : (Instr.field 61 (.agg #[.int .i64 f.t, .int .i64 f.x, .int .i64 f.y]) 0).run Tryz.prog w = .ok (.int .i64 f.t) w := by kernel_rfl

/-- Does a track of that list last at a time? -/
def lastB (fs : List F3) (t : Int) : Bool := inB t (fx fs 0).t (fx fs (fs.length - 1)).t

theorem lastsAt_any (a : Option Addr) (cap : Nat) (fs : List F3) (t : Int) (w : World) (hf : Fxs w a fs) (h0 : 0 < fs.length) : Calls Tryz.prog 44 #[Tr (.slice a fs.length cap), .int .i64 t] w fun e w' => e = .returned (.bool (lastB fs t)) ∧ Ext w w' := by
  have HF := Lib.hid hf
  clear hf
  by_cases h1 : (fx fs 0).t ≤ t
  · have H1 : decide ((fx fs 0).t ≤ t) = true := decide_eq_true h1
    have H := Lib.hid (show lastB fs t = decide (t ≤ (fx fs (fs.length - 1)).t) by unfold lastB inB; simp [h1])
    clear h1
    have hfd := fieldT
    go_enter Tryz.func44, Tryz.ntmps44
    go_wp2_with fail
    refine (first_any _ _ _ _ (HF.out.ext (by repeat (first | exact Ext.refl _ | assumption | apply Ext.alloc | apply Ext.drew | (refine Ext.trans ?_ (by assumption)) | (refine Ext.setNew ?_ (by simp <;> omega) _)))) h0).mono ?_
    rintro e w1 ⟨rfl, h1⟩
    have X1 := Lib.hid (((Ext.refl w).alloc _).trans h1)
    have b1 : w1.cell? ⟨w.heap.size, 0, none⟩ = some (.slice a fs.length cap) := h1.cellOf (boxed 0 rfl rfl)
    clear h1
    go_wp2_with fail
    refine (last_any _ _ _ _ (HF.out.ext (X1.out.trans (by repeat (first | exact Ext.refl _ | assumption | apply Ext.alloc | apply Ext.drew | (refine Ext.trans ?_ (by assumption)) | (refine Ext.setNew ?_ (by simp <;> omega) _))))) h0).mono ?_
    rintro e w2 ⟨rfl, h2⟩
    have X2 := Lib.hid (X1.out.trans h2)
    clear h2
    go_wp2
    go_ret
    exact ⟨ret_bool H.out, X2.out⟩
  · have H1 : decide ((fx fs 0).t ≤ t) = false := decide_eq_false h1
    have H := Lib.hid (show lastB fs t = false from inB_no (fun h => h1 h.1))
    clear h1
    have hfd := fieldT
    go_enter Tryz.func44, Tryz.ntmps44
    go_wp2_with (go_at_call 76; refine (first_any _ _ _ _ (HF.out.ext (by repeat (first | exact Ext.refl _ | assumption | apply Ext.alloc | apply Ext.drew | (refine Ext.trans ?_ (by assumption)) | (refine Ext.setNew ?_ (by simp <;> omega) _)))) h0).mono ?_; rintro e w1 ⟨rfl, h1⟩)
    go_ret
    exact ⟨ret_bool H.out, (by repeat (first | exact Ext.refl _ | assumption | apply Ext.alloc | apply Ext.drew | (refine Ext.trans ?_ (by assumption)) | (refine Ext.setNew ?_ (by simp <;> omega) _)))⟩

theorem lasts_spec (a : Option Addr) (cap : Nat) (fs : List F3) (t : Int) (w : World) (hf : Fxs w a fs) (h0 : 0 < fs.length) : Calls Tryz.prog 65 #[Tr (.slice a fs.length cap), .int .i64 t] w fun e w' => e = .returned (.bool (lastB fs t)) ∧ Ext w w' := by
  have hm := hf.1
  rcases hf.2 with h | ⟨b, off, rfl, hb⟩
  · rw [h] at h0; simp at h0
  obtain ⟨c0, _, _⟩ := hb 0 h0
  rw [Nat.zero_mul, Nat.add_zero] at c0
  obtain ⟨d0, _, _⟩ := hb (fs.length - 1) (by omega)
  have i1 : (0 : Int) < (fs.length : Int) := by omega
  have i2 : (1 : Int) ≤ (fs.length : Int) := by omega
  have i3 : (fs.length : Int) - 1 < (fs.length : Int) := by omega
  have i0 : (0 : Int) ≤ (fs.length : Int) - 1 := by omega
  have T0 := wrap_pred h0 hm
  have T1 : ((fs.length : Int) - 1).toNat = fs.length - 1 := by omega
  unfold maxLen at hm
  clear hb hf
  go_enter Tryz.func65, Tryz.ntmps65
  go_wp2_with fail
  have e0 : ∀ w', Ext (w.alloc (.cells #[.slice (some ⟨b, off, none⟩) fs.length cap] 28)) w' → w'.cell? ⟨w.heap.size, 0, none⟩ = some (.slice (some ⟨b, off, none⟩) fs.length cap) := fun w' h => h.cellOf (boxed 0 rfl rfl)
  have e1 : ∀ w', Ext (w.alloc (.cells #[.slice (some ⟨b, off, none⟩) fs.length cap] 28)) w' → w'.cell? ⟨b, off, none⟩ = some (.int .i64 (fx fs 0).t) := fun w' h => h.cellOf (((Ext.refl _).alloc _).cellOf c0)
  have e2 : ∀ w', Ext (w.alloc (.cells #[.slice (some ⟨b, off, none⟩) fs.length cap] 28)) w' → w'.cell? ⟨b, off + (fs.length - 1) * 3, none⟩ = some (.int .i64 (fx fs (fs.length - 1)).t) := fun w' h => h.cellOf (((Ext.refl _).alloc _).cellOf d0)
  refine wp_region_held_drew (S := (fun w' => Ext (w.alloc (.cells #[.slice (some ⟨b, off, none⟩) fs.length cap] 28)) w')) (by kernel_rfl) (by (try dsimp only); first | go_keep | exact (Ext.refl _).drew | exact Res.new2.drew | exact Res.new4.drew | exact ResB.drew (by assumption) | exact ResC.drew (by assumption) | assumption | exact Ext.drew (by assumption) | exact Res.drew (by assumption)) (fun hHeld => ?_)
  refine Ord.K 0 5 ?_
  refine Ord.K 1 6 ?_
  refine Ord.K 2 7 ?_
  refine Ord.K 3 8 ?_
  refine Ord.K 4 9 ?_
  refine Ord.K 5 10 ?_
  refine Ord.K 6 11 ?_
  refine Ord.K 7 12 ?_
  refine Ord.K 8 13 ?_
  refine Ord.K 9 14 ?_
  refine Ord.K 10 15 ?_
  refine Ord.K 11 16 ?_
  refine Ord.K 12 17 ?_
  refine Ord.K 13 18 ?_
  refine Ord.K 14 19 ?_
  (refine wpAnyH_ready (rs := [15]) (by kernel_rfl) (by simp) ?_; refine AllReadyH.cons rfl (fun K hK => ?_) AllReadyH.nil; go_simp; (go_at_call 66; refine (in_any _ _ _ _).mono ?_; rintro e w1 ⟨rfl, rfl⟩); go_wp2_with fail; (refine hK.out _ _ (by first | assumption | exact Ext.trans (by assumption) hy | exact Res.ext (by assumption) hy | exact ResB.ext (by assumption) hy | exact ResC.ext (by assumption) hy | (go_split_ands; (repeat' apply And.intro) <;> exact Ext.cellOf hy (by assumption))) (fun hHeld => ?_)); clear hK K; (try simp only [Act.put, Ord.a, Ord.b, Ord.c]))
  refine Ord.K 16 4 ?_
  refine wpAnyH_done (by kernel_rfl) ?_ _
  go_wp2
  go_ret
  exact ⟨rfl, ((Ext.refl _).alloc _).trans (by assumption)⟩

end Go.Proofs.YtlheppblioglpaaGreat.Trk
