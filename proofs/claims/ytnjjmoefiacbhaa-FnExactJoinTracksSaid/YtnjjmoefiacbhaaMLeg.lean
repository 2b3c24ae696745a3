import Derived.Test.YtnjjmoefiacbhaaTrk
import Derived.Deep.LoopGhost
import Derived.Laws.EntriesVeiled
namespace Go.Proofs.Ytnjjmoefiacbhaa.Trk
open Go.ChangeShapes Go.WideShapes Go.ChangeAt Go.RowKit
open Go.Proofs.Ytnjjmoefiacbhaa.Num Go.Proofs.Ytnjjmoefiacbhaa.Kit Go.Proofs.Ytnjjmoefiacbhaa.Pts
set_option linter.unusedVariables false
set_option linter.unusedSimpArgs false
abbrev FxV (f : F3) : Value := Fx f.t f.x f.y
theorem wrap_pred {n : Nat} (h1 : 1 ≤ n) (hm : n ≤ maxLen) : IntKind.i64.wrap ((n : Int) - 1) = (n : Int) - 1 := IntWalk.i64_in _ (by unfold maxLen at hm; omega)
theorem wrap_succ {n : Nat} (hm : n ≤ 1000000) : IntKind.i64.wrap ((n : Int) + 1) = (n : Int) + 1 := IntWalk.i64_in _ (by omega)
theorem two_on {w : World} {p : Addr} {v : Value} (h : w.cell? p = some v) : ∀ A B, ((w.alloc A).alloc B).cell? p = some v := fun A B => (((Ext.refl w).alloc A).alloc B).cellOf h
theorem one_on {w : World} {p : Addr} {v : Value} (h : w.cell? p = some v) : ∀ A, (w.alloc A).cell? p = some v := fun A => ((Ext.refl w).alloc A).cellOf h
theorem first_any (a : Option Addr) (cap : Nat) (fs : List F3) (w : World) (hf : Fxs w a fs) (h0 : 0 < fs.length) : Calls Try.prog 43 #[Tr (.slice a fs.length cap)] w fun e w' => e = .returned (FxV (fx fs 0)) ∧ Ext w w' := by
  rcases hf.2 with h | ⟨b, off, rfl, hb⟩
  · rw [h] at h0; simp at h0
  obtain ⟨c0, c1, c2⟩ := hb 0 h0
  rw [Nat.zero_mul, Nat.add_zero] at c0 c1 c2
  have i1 : (0 : Int) < (fs.length : Int) := by omega
  replace c0 := two_on c0
  replace c1 := two_on c1
  replace c2 := two_on c2
  clear hb hf
  go_enter Try.func43, Try.ntmps43
  go_wp2
  exact bodyPost_ret (v := FxV (fx fs 0)) (by simp [results, Try.results43, go_sem]) rfl ⟨rfl, (by repeat (first | exact Ext.refl _ | assumption | apply Ext.alloc | apply Ext.drew | (refine Ext.trans ?_ (by assumption)) | (refine Ext.setNew ?_ (by simp <;> omega) _)))⟩
theorem last_any (a : Option Addr) (cap : Nat) (fs : List F3) (w : World) (hf : Fxs w a fs) (h0 : 0 < fs.length) : Calls Try.prog 42 #[Tr (.slice a fs.length cap)] w fun e w' => e = .returned (FxV (fx fs (fs.length - 1))) ∧ Ext w w' := by
  have hm := hf.1
  rcases hf.2 with h | ⟨b, off, rfl, hb⟩
  · rw [h] at h0; simp at h0
  obtain ⟨c0, c1, c2⟩ := hb (fs.length - 1) (by omega)
  have i0 : (0 : Int) ≤ (fs.length : Int) - 1 := by omega
  have i2 : (1 : Int) ≤ (fs.length : Int) := by omega
  have i1 : (fs.length : Int) - 1 < (fs.length : Int) := by omega
  have T0 := wrap_pred h0 hm
  have T1 : ((fs.length : Int) - 1).toNat = fs.length - 1 := by omega
  unfold maxLen at hm
  replace c0 := two_on c0
  replace c1 := two_on c1
  replace c2 := two_on c2
  clear hb hf
  go_enter Try.func42, Try.ntmps42
  go_wp2
  exact bodyPost_ret (v := FxV (fx fs (fs.length - 1))) (by simp [results, Try.results42, go_sem]) rfl ⟨rfl, (by repeat (first | exact Ext.refl _ | assumption | apply Ext.alloc | apply Ext.drew | (refine Ext.trans ?_ (by assumption)) | (refine Ext.setNew ?_ (by simp <;> omega) _)))⟩
theorem fieldT (f : F3) (w : World) : (Instr.field 45 (.agg #[.int .i64 f.t, .int .i64 f.x, .int .i64 f.y]) 0).run Try.prog w = .ok (.int .i64 f.t) w := by kernel_rfl
def lastB (fs : List F3) (t : Int) : Bool := inB t (fx fs 0).t (fx fs (fs.length - 1)).t
theorem lastsAt_any (a : Option Addr) (cap : Nat) (fs : List F3) (t : Int) (w : World) (hf : Fxs w a fs) (h0 : 0 < fs.length) : Calls Try.prog 31 #[Tr (.slice a fs.length cap), .int .i64 t] w fun e w' => e = .returned (.bool (lastB fs t)) ∧ Ext w w' := by
  have HF := Lib.hid hf
  clear hf
  by_cases h1 : (fx fs 0).t ≤ t
  · have H1 : decide ((fx fs 0).t ≤ t) = true := decide_eq_true h1
    have H := Lib.hid (show lastB fs t = decide (t ≤ (fx fs (fs.length - 1)).t) by unfold lastB inB; simp [h1])
    clear h1
    have hfd := fieldT
    go_enter Try.func31, Try.ntmps31
    go_wp2_with fail
    refine (first_any _ _ _ _ (HF.out.ext (by repeat (first | exact Ext.refl _ | assumption | apply Ext.alloc | apply Ext.drew | (refine Ext.trans ?_ (by assumption)) | (refine Ext.setNew ?_ (by simp <;> omega) _)))) h0).mono ?_
    rintro e w1 ⟨rfl, h1⟩
    have X1 := Lib.hid (((Ext.refl w).alloc _).trans h1)
    have b1 : w1.cell? ⟨w.heap.size, 0, none⟩ = some (.slice a fs.length cap) := h1.cellOf (boxed 0 rfl rfl)
    clear h1
    go_wp2_with fail
    refine (last_any _ _ _ _ (HF.out.ext (X1.out.trans (by repeat (first | exact Ext.refl _ | assumption | apply Ext.alloc | apply Ext.drew | (refine Ext.trans ?_ (by assumption)) | (refine Ext.setNew ?_ (by simp <;> omega) _))))) h0).mono ?_
    rintro e w2 ⟨rfl, h2⟩
    have X2 := Lib.hid (X1.out.trans h2)
    clear h2
    go_wp2
    go_ret
    exact ⟨ret_bool H.out, X2.out⟩
  · have H1 : decide ((fx fs 0).t ≤ t) = false := decide_eq_false h1
    have H := Lib.hid (show lastB fs t = false from inB_no (fun h => h1 h.1))
    clear h1
    have hfd := fieldT
    go_enter Try.func31, Try.ntmps31
    go_wp2_with (go_at_call 43; refine (first_any _ _ _ _ (HF.out.ext (by repeat (first | exact Ext.refl _ | assumption | apply Ext.alloc | apply Ext.drew | (refine Ext.trans ?_ (by assumption)) | (refine Ext.setNew ?_ (by simp <;> omega) _)))) h0).mono ?_; rintro e w1 ⟨rfl, h1⟩)
    go_ret
    exact ⟨ret_bool H.out, (by repeat (first | exact Ext.refl _ | assumption | apply Ext.alloc | apply Ext.drew | (refine Ext.trans ?_ (by assumption)) | (refine Ext.setNew ?_ (by simp <;> omega) _)))⟩
theorem lasts_spec (a : Option Addr) (cap : Nat) (fs : List F3) (t : Int) (w : World) (hf : Fxs w a fs) (h0 : 0 < fs.length) : Calls Try.prog 33 #[Tr (.slice a fs.length cap), .int .i64 t] w fun e w' => e = .returned (.bool (lastB fs t)) ∧ Ext w w' := by
  have hm := hf.1
  rcases hf.2 with h | ⟨b, off, rfl, hb⟩
  · rw [h] at h0; simp at h0
  obtain ⟨c0, _, _⟩ := hb 0 h0
  rw [Nat.zero_mul, Nat.add_zero] at c0
  obtain ⟨d0, _, _⟩ := hb (fs.length - 1) (by omega)
  have i1 : (0 : Int) < (fs.length : Int) := by omega
  have i2 : (1 : Int) ≤ (fs.length : Int) := by omega
  have i3 : (fs.length : Int) - 1 < (fs.length : Int) := by omega
  have i0 : (0 : Int) ≤ (fs.length : Int) - 1 := by omega
  have T0 := wrap_pred h0 hm
  have T1 : ((fs.length : Int) - 1).toNat = fs.length - 1 := by omega
  unfold maxLen at hm
  clear hb hf
  go_enter Try.func33, Try.ntmps33
  go_wp2_with fail
  have e0 : ∀ w', Ext (w.alloc (.cells #[.slice (some ⟨b, off, none⟩) fs.length cap] 28)) w' → w'.cell? ⟨w.heap.size, 0, none⟩ = some (.slice (some ⟨b, off, none⟩) fs.length cap) := fun w' h => h.cellOf (boxed 0 rfl rfl)
  have e1 : ∀ w', Ext (w.alloc (.cells #[.slice (some ⟨b, off, none⟩) fs.length cap] 28)) w' → w'.cell? ⟨b, off, none⟩ = some (.int .i64 (fx fs 0).t) := fun w' h => h.cellOf (((Ext.refl _).alloc _).cellOf c0)
  have e2 : ∀ w', Ext (w.alloc (.cells #[.slice (some ⟨b, off, none⟩) fs.length cap] 28)) w' → w'.cell? ⟨b, off + (fs.length - 1) * 3, none⟩ = some (.int .i64 (fx fs (fs.length - 1)).t) := fun w' h => h.cellOf (((Ext.refl _).alloc _).cellOf d0)
  refine wp_region_held_drew (S := (fun w' => Ext (w.alloc (.cells #[.slice (some ⟨b, off, none⟩) fs.length cap] 28)) w')) (by kernel_rfl) (by (try dsimp only); first | go_keep | exact (Ext.refl _).drew | exact Res.new2.drew | exact Res.new4.drew | exact ResB.drew (by assumption) | exact ResC.drew (by assumption) | assumption | exact Ext.drew (by assumption) | exact Res.drew (by assumption)) (fun hHeld => ?_)
  (refine Ord.k 0 5 (v := ?_) ?_ ?_; rotate_left; (intro w h; (try dsimp only at h); go_simp; (try with_reducible rfl)); (try simp only [Act.put, Ord.a, Ord.b, Ord.c]))
  (refine Ord.k 1 6 (v := ?_) ?_ ?_; rotate_left; (intro w h; (try dsimp only at h); go_simp; (try with_reducible rfl)); (try simp only [Act.put, Ord.a, Ord.b, Ord.c]))
  (refine Ord.k 2 7 (v := ?_) ?_ ?_; rotate_left; (intro w h; (try dsimp only at h); go_simp; (try with_reducible rfl)); (try simp only [Act.put, Ord.a, Ord.b, Ord.c]))
  (refine Ord.k 3 8 (v := ?_) ?_ ?_; rotate_left; (intro w h; (try dsimp only at h); go_simp; (try with_reducible rfl)); (try simp only [Act.put, Ord.a, Ord.b, Ord.c]))
  (refine Ord.k 4 9 (v := ?_) ?_ ?_; rotate_left; (intro w h; (try dsimp only at h); go_simp; (try with_reducible rfl)); (try simp only [Act.put, Ord.a, Ord.b, Ord.c]))
  (refine Ord.k 5 10 (v := ?_) ?_ ?_; rotate_left; (intro w h; (try dsimp only at h); go_simp; (try with_reducible rfl)); (try simp only [Act.put, Ord.a, Ord.b, Ord.c]))
  (refine Ord.k 6 11 (v := ?_) ?_ ?_; rotate_left; (intro w h; (try dsimp only at h); go_simp; (try with_reducible rfl)); (try simp only [Act.put, Ord.a, Ord.b, Ord.c]))
  (refine Ord.k 7 12 (v := ?_) ?_ ?_; rotate_left; (intro w h; (try dsimp only at h); go_simp; (try with_reducible rfl)); (try simp only [Act.put, Ord.a, Ord.b, Ord.c]))
  (refine Ord.k 8 13 (v := ?_) ?_ ?_; rotate_left; (intro w h; (try dsimp only at h); go_simp; (try with_reducible rfl)); (try simp only [Act.put, Ord.a, Ord.b, Ord.c]))
  (refine Ord.k 9 14 (v := ?_) ?_ ?_; rotate_left; (intro w h; (try dsimp only at h); go_simp; (try with_reducible rfl)); (try simp only [Act.put, Ord.a, Ord.b, Ord.c]))
  (refine Ord.k 10 15 (v := ?_) ?_ ?_; rotate_left; (intro w h; (try dsimp only at h); go_simp; (try with_reducible rfl)); (try simp only [Act.put, Ord.a, Ord.b, Ord.c]))
  (refine Ord.k 11 16 (v := ?_) ?_ ?_; rotate_left; (intro w h; (try dsimp only at h); go_simp; (try with_reducible rfl)); (try simp only [Act.put, Ord.a, Ord.b, Ord.c]))
  (refine Ord.k 12 17 (v := ?_) ?_ ?_; rotate_left; (intro w h; (try dsimp only at h); go_simp; (try with_reducible rfl)); (try simp only [Act.put, Ord.a, Ord.b, Ord.c]))
  (refine Ord.k 13 18 (v := ?_) ?_ ?_; rotate_left; (intro w h; (try dsimp only at h); go_simp; (try with_reducible rfl)); (try simp only [Act.put, Ord.a, Ord.b, Ord.c]))
  (refine Ord.k 14 19 (v := ?_) ?_ ?_; rotate_left; (intro w h; (try dsimp only at h); go_simp; (try with_reducible rfl)); (try simp only [Act.put, Ord.a, Ord.b, Ord.c]))
  (refine wpAnyH_ready (rs := [15]) (by kernel_rfl) (by simp) ?_; refine AllReadyH.cons rfl (fun K hK => ?_) AllReadyH.nil; go_simp; (go_at_call 37; refine (in_any _ _ _ _).mono ?_; rintro e w1 ⟨rfl, rfl⟩); go_wp2_with fail; (refine hK.out _ _ (by first | assumption | exact Ext.trans (by assumption) hy | exact Res.ext (by assumption) hy | exact ResB.ext (by assumption) hy | exact ResC.ext (by assumption) hy | (go_split_ands; (repeat' apply And.intro) <;> exact Ext.cellOf hy (by assumption))) (fun hHeld => ?_)); clear hK K; (try simp only [Act.put, Ord.a, Ord.b, Ord.c]))
  (refine Ord.k 16 4 (v := ?_) ?_ ?_; rotate_left; (intro w h; (try dsimp only at h); go_simp; (try with_reducible rfl)); (try simp only [Act.put, Ord.a, Ord.b, Ord.c]))
  refine wpAnyH_done (by kernel_rfl) ?_ _
  go_wp2
  go_ret
  exact ⟨rfl, ((Ext.refl _).alloc _).trans (by assumption)⟩
end Go.Proofs.Ytnjjmoefiacbhaa.Trk
namespace Go.Proofs.Ytnjjmoefiacbhaa.Trk
open Go.ChangeShapes Go.WideShapes Go.ChangeAt Go.RowKit
open Go.Proofs.Ytnjjmoefiacbhaa.Num Go.Proofs.Ytnjjmoefiacbhaa.Kit Go.Proofs.Ytnjjmoefiacbhaa.Pts
set_option linter.unusedVariables false
set_option linter.unusedSimpArgs false
def ctI (fs : List F3) (t : Int) : Int := if trB fs = true then (if lastB fs t = true then 0 else 2) else 1
theorem ctI_bad {fs : List F3} {t : Int} (h : trB fs = false) : ctI fs t = 1 := by unfold ctI; rw [h]; simp
theorem ctI_out {fs : List F3} {t : Int} (h : trB fs = true) (g : lastB fs t = false) : ctI fs t = 2 := by unfold ctI; rw [h, g]; simp
theorem ctI_in {fs : List F3} {t : Int} (h : trB fs = true) (g : lastB fs t = true) : ctI fs t = 0 := by unfold ctI; rw [h, g]; simp
theorem checkTime_any (a : Option Addr) (cap : Nat) (fs : List F3) (t : Int) (w : World) (hf : Fxs w a fs) : Calls Try.prog 35 #[Tr (.slice a fs.length cap), .int .i64 t] w fun e w' => e = .returned (.int .i64 (ctI fs t)) ∧ Ext w w' := by
  have HF := Lib.hid hf
  clear hf
  cases hv : trB fs
  · have H := Lib.hid (ctI_bad (t := t) hv)
    go_enter Try.func35, Try.ntmps35
    go_wp2_with (go_at_call 30; refine (trackValid_any _ _ _ _ (HF.out.ext (by repeat (first | exact Ext.refl _ | assumption | apply Ext.alloc | apply Ext.drew | (refine Ext.trans ?_ (by assumption)) | (refine Ext.setNew ?_ (by simp <;> omega) _))))).mono ?_; rw [hv]; rintro e w1 ⟨rfl, h1⟩)
    go_ret
    exact ⟨ret_int H.out, (by repeat (first | exact Ext.refl _ | assumption | apply Ext.alloc | apply Ext.drew | (refine Ext.trans ?_ (by assumption)) | (refine Ext.setNew ?_ (by simp <;> omega) _)))⟩
  · have h0 : 0 < fs.length := by have := (trB_yes hv).1; omega
    cases hl : lastB fs t
    · have H := Lib.hid (ctI_out hv hl)
      go_enter Try.func35, Try.ntmps35
      go_wp2_with fail
      refine (trackValid_any _ _ _ _ (HF.out.ext (by repeat (first | exact Ext.refl _ | assumption | apply Ext.alloc | apply Ext.drew | (refine Ext.trans ?_ (by assumption)) | (refine Ext.setNew ?_ (by simp <;> omega) _))))).mono ?_
      rw [hv]
      rintro e w1 ⟨rfl, h1⟩
      have X1 := Lib.hid (((Ext.refl w).alloc _).trans h1)
      have b1 : w1.cell? ⟨w.heap.size, 0, none⟩ = some (.slice a fs.length cap) := h1.cellOf (boxed 0 rfl rfl)
      clear h1
      go_wp2_with fail
      refine (lastsAt_any _ _ _ _ _ (HF.out.ext (X1.out.trans (by repeat (first | exact Ext.refl _ | assumption | apply Ext.alloc | apply Ext.drew | (refine Ext.trans ?_ (by assumption)) | (refine Ext.setNew ?_ (by simp <;> omega) _))))) h0).mono ?_
      rw [hl]
      rintro e w2 ⟨rfl, h2⟩
      have X2 := Lib.hid (X1.out.trans h2)
      clear h2
      go_wp2
      go_ret
      exact ⟨ret_int H.out, X2.out⟩
    · have H := Lib.hid (ctI_in hv hl)
      go_enter Try.func35, Try.ntmps35
      go_wp2_with fail
      refine (trackValid_any _ _ _ _ (HF.out.ext (by repeat (first | exact Ext.refl _ | assumption | apply Ext.alloc | apply Ext.drew | (refine Ext.trans ?_ (by assumption)) | (refine Ext.setNew ?_ (by simp <;> omega) _))))).mono ?_
      rw [hv]
      rintro e w1 ⟨rfl, h1⟩
      have X1 := Lib.hid (((Ext.refl w).alloc _).trans h1)
      have b1 : w1.cell? ⟨w.heap.size, 0, none⟩ = some (.slice a fs.length cap) := h1.cellOf (boxed 0 rfl rfl)
      clear h1
      go_wp2_with fail
      refine (lastsAt_any _ _ _ _ _ (HF.out.ext (X1.out.trans (by repeat (first | exact Ext.refl _ | assumption | apply Ext.alloc | apply Ext.drew | (refine Ext.trans ?_ (by assumption)) | (refine Ext.setNew ?_ (by simp <;> omega) _))))) h0).mono ?_
      rw [hl]
      rintro e w2 ⟨rfl, h2⟩
      have X2 := Lib.hid (X1.out.trans h2)
      clear h2
      go_wp2
      go_ret
      exact ⟨ret_int H.out, X2.out⟩
theorem legCount_any (a : Option Addr) (cap n : Nat) (w : World) (h1 : 1 ≤ n) (hm : n ≤ 1000000) : Calls Try.prog 59 #[Tr (.slice a n cap)] w fun e w' => e = .returned (.int .i64 ((n - 1 : Nat) : Int)) ∧ Ext w w' := by
  have E : ((n - 1 : Nat) : Int) = (n : Int) - 1 := by omega
  have T0 : IntKind.i64.wrap ((n : Int) - 1) = (n : Int) - 1 := wrap_pred h1 (by unfold maxLen; omega)
  go_enter Try.func59, Try.ntmps59
  go_wp2
  go_ret
  exact ⟨ret_int E, (by repeat (first | exact Ext.refl _ | assumption | apply Ext.alloc | apply Ext.drew | (refine Ext.trans ?_ (by assumption)) | (refine Ext.setNew ?_ (by simp <;> omega) _)))⟩
theorem timeOf_any (f : F3) (w : World) : Calls Try.prog 60 #[FxV f] w fun e w' => e = .returned (.int .i64 f.t) ∧ Ext w w' := by
  go_enter Try.func60, Try.ntmps60
  go_wp2
  go_ret
  exact ⟨rfl, (by repeat (first | exact Ext.refl _ | assumption | apply Ext.alloc | apply Ext.drew | (refine Ext.trans ?_ (by assumption)) | (refine Ext.setNew ?_ (by simp <;> omega) _)))⟩
abbrev Ptr (k : Nat) : Value := .pointer (some ⟨k, 0, none⟩)
theorem above_any (b off cap n i k l m : Nat) (f : F3) (t : Int) (w : World) (hi : i < n) (hc : At w b (off + i * 3) f)
    (hk : w.cell? ⟨k, 0, none⟩ = some (.func (.func 60) #[] #[])) (hl : w.cell? ⟨l, 0, none⟩ = some (.slice (some ⟨b, off, none⟩) n cap)) (hm : w.cell? ⟨m, 0, none⟩ = some (.int .i64 t)) :
    Calls Try.prog 66 #[.int .i64 i, Ptr k, Ptr l, Ptr m] w fun e w' => e = .returned (.bool (decide (t < f.t))) ∧ Ext w w' := by
  have i0 : (0 : Int) ≤ (i : Int) := by omega
  have i1 : (i : Int) < (n : Int) := by omega
  obtain ⟨c0, c1, c2⟩ := hc
  have e0 : ∀ w', Ext w w' → w'.cell? ⟨b, off + i * 3, none⟩ = some (.int .i64 f.t) := fun w' h => h.cellOf c0
  have e1 : ∀ w', Ext w w' → w'.cell? ⟨b, off + i * 3 + 1, none⟩ = some (.int .i64 f.x) := fun w' h => h.cellOf c1
  have e2 : ∀ w', Ext w w' → w'.cell? ⟨b, off + i * 3 + 2, none⟩ = some (.int .i64 f.y) := fun w' h => h.cellOf c2
  have e3 : ∀ w', Ext w w' → w'.cell? ⟨k, 0, none⟩ = some (.func (.func 60) #[] #[]) := fun w' h => h.cellOf hk
  have e4 : ∀ w', Ext w w' → w'.cell? ⟨l, 0, none⟩ = some (.slice (some ⟨b, off, none⟩) n cap) := fun w' h => h.cellOf hl
  have e5 : ∀ w', Ext w w' → w'.cell? ⟨m, 0, none⟩ = some (.int .i64 t) := fun w' h => h.cellOf hm
  clear c0 c1 c2 hk hl hm
  go_enter Try.func66, Try.ntmps66
  go_wp2_with fail
  refine wp_region_held_drew (S := (fun w' => Ext w w')) (by kernel_rfl) (by (try dsimp only); first | go_keep | exact (Ext.refl _).drew | exact Res.new2.drew | exact Res.new4.drew | exact ResB.drew (by assumption) | exact ResC.drew (by assumption) | assumption | exact Ext.drew (by assumption) | exact Res.drew (by assumption)) (fun hHeld => ?_)
  (refine Ord.k 0 6 (v := ?_) ?_ ?_; rotate_left; (intro w h; (try dsimp only at h); go_simp; (try with_reducible rfl)); (try simp only [Act.put, Ord.a, Ord.b, Ord.c]))
  (refine Ord.k 1 7 (v := ?_) ?_ ?_; rotate_left; (intro w h; (try dsimp only at h); go_simp; (try with_reducible rfl)); (try simp only [Act.put, Ord.a, Ord.b, Ord.c]))
  (refine Ord.k 2 8 (v := ?_) ?_ ?_; rotate_left; (intro w h; (try dsimp only at h); go_simp; (try with_reducible rfl)); (try simp only [Act.put, Ord.a, Ord.b, Ord.c]))
  (refine Ord.k 3 9 (v := ?_) ?_ ?_; rotate_left; (intro w h; (try dsimp only at h); go_simp; (try with_reducible rfl)); (try simp only [Act.put, Ord.a, Ord.b, Ord.c]))
  (refine Ord.k 4 10 (v := ?_) ?_ ?_; rotate_left; (intro w h; (try dsimp only at h); go_simp; (try with_reducible rfl)); (try simp only [Act.put, Ord.a, Ord.b, Ord.c]))
  (refine Ord.k 6 12 (v := ?_) ?_ ?_; rotate_left; (intro w h; (try dsimp only at h); go_simp; (try with_reducible rfl)); (try simp only [Act.put, Ord.a, Ord.b, Ord.c]))
  (refine wpAnyH_ready (rs := [5]) (by kernel_rfl) (by simp) ?_; refine AllReadyH.cons rfl (fun K hK => ?_) AllReadyH.nil; go_simp; (go_at_call 60; refine (timeOf_any _ _).mono ?_; rintro e w1 ⟨rfl, hy⟩); go_wp2_with fail; (refine hK.out _ _ (by first | assumption | exact Ext.trans (by assumption) hy | exact Res.ext (by assumption) hy | exact ResB.ext (by assumption) hy | exact ResC.ext (by assumption) hy | (go_split_ands; (repeat' apply And.intro) <;> exact Ext.cellOf hy (by assumption))) (fun hHeld => ?_)); clear hK K; (try simp only [Act.put, Ord.a, Ord.b, Ord.c]))
  (refine Ord.k 7 13 (v := ?_) ?_ ?_; rotate_left; (intro w h; (try dsimp only at h); go_simp; (try with_reducible rfl)); (try simp only [Act.put, Ord.a, Ord.b, Ord.c]))
  (refine Ord.k 8 5 (v := ?_) ?_ ?_; rotate_left; (intro w h; (try dsimp only at h); go_simp; (try with_reducible rfl)); (try simp only [Act.put, Ord.a, Ord.b, Ord.c]))
  refine wpAnyH_done (by kernel_rfl) ?_ _
  go_wp2
  go_ret
  exact ⟨rfl, by assumption⟩
end Go.Proofs.Ytnjjmoefiacbhaa.Trk
namespace Go.Proofs.Ytnjjmoefiacbhaa.Trk
open Go.ChangeShapes Go.WideShapes Go.ChangeAt Go.RowKit
open Go.Proofs.Ytnjjmoefiacbhaa.Num Go.Proofs.Ytnjjmoefiacbhaa.Kit Go.Proofs.Ytnjjmoefiacbhaa.Pts
set_option linter.unusedVariables false
set_option linter.unusedSimpArgs false
def RelS (w : World) (n : Nat) (p : Nat → Bool) (i j : Value) (wr : World) : Prop :=
  ∃ lo hi : Nat, i = .int .i64 lo ∧ j = .int .i64 hi ∧ lo ≤ hi ∧ hi ≤ n ∧ (∀ x, x < lo → p x = false) ∧ (∀ x, hi ≤ x → x < n → p x = true) ∧ Ext w wr
theorem below_no {n k : Nat} {p : Nat → Bool} (hm : ∀ a b, a ≤ b → b < n → p a = true → p b = true) (hk : k < n) (h : p k = false) : ∀ x, x < k + 1 → p x = false := by
  intro x hx
  cases g : p x
  · rfl
  · rw [hm x k (by omega) hk g] at h; cases h
set_option maxHeartbeats 1000000 in
theorem search_any (n : Nat) (p : Nat → Bool) (k l m : Nat) (w : World) (hn : n ≤ 1000000)
    (hf : ∀ w', Ext w w' → ∀ i, i < n → Calls Try.prog 66 #[.int .i64 i, Ptr k, Ptr l, Ptr m] w' fun e w'' => e = .returned (.bool (p i)) ∧ Ext w' w'')
    (hmono : ∀ a b, a ≤ b → b < n → p a = true → p b = true) :
    Calls Try.prog 65 #[.int .i64 n, .func (.func 66) #[] #[Ptr k, Ptr l, Ptr m]] w fun e w' =>
      ∃ h : Nat, e = .returned (.int .i64 h) ∧ h ≤ n ∧ (∀ i, i < h → p i = false) ∧ (∀ i, h ≤ i → i < n → p i = true) ∧ Ext w w' := by
  have HF := Lib.hid hf
  have HM := Lib.hid hmono
  clear hf hmono
  go_enter Try.func65, Try.ntmps65
  go_wp2
  go_loopw [5, 6] (fun i j wr => RelS w n p i j wr) (fun i j _ => (intOf j).toNat - (intOf i).toNat)
  case atStart => exact ⟨0, n, rfl, rfl, Nat.zero_le _, Nat.le_refl _, fun x hx => absurd hx (by omega), fun x h1 h2 => absurd h1 (by omega), Ext.refl _⟩
  case round =>
    obtain ⟨lo, hi, rfl, rfl, hlh, hin, hA, hB, hx⟩ := hrel
    have HA := Lib.hid hA
    have HB := Lib.hid hB
    have HX := Lib.hid hx
    clear hA hB hx
    by_cases hlt : lo < hi
    · have hc := HF.out _ HX.out ((lo + hi) / 2) (by omega)
      rw [show (((lo + hi) / 2 : Nat) : Int) = ((lo : Int) + (hi : Int)) / 2 by omega] at hc
      cases hp : p ((lo + hi) / 2) <;> rw [hp] at hc
      · have HP := Lib.hid hp
        clear hp
        go_wp2_with (go_at_call 66; refine hc.mono ?_; rintro e w1 ⟨rfl, hy⟩)
        have HY := Lib.hid (HX.out.trans hy)
        clear hy
        go_roundw
        case rel =>
          exact ⟨(lo + hi) / 2 + 1, hi, by rw [show ((lo : Int) + (hi : Int)) / 2 + 1 = (((lo + hi) / 2 + 1 : Nat) : Int) by omega], rfl, by omega, hin, below_no HM.out (by omega) HP.out, HB.out, HY.out⟩
        case measure => simp [intOf]; omega
      · have HP := Lib.hid hp
        clear hp
        go_wp2_with (go_at_call 66; refine hc.mono ?_; rintro e w1 ⟨rfl, hy⟩)
        have HY := Lib.hid (HX.out.trans hy)
        clear hy
        go_roundw
        case rel =>
          exact ⟨lo, (lo + hi) / 2, rfl, by rw [show ((lo : Int) + (hi : Int)) / 2 = (((lo + hi) / 2 : Nat) : Int) by omega], by omega, by omega, HA.out, fun x hx hxn => HM.out ((lo + hi) / 2) x hx hxn HP.out, HY.out⟩
        case measure => simp [intOf]; omega
    · obtain rfl : hi = lo := by omega
      go_wp2
      go_ret
      exact ⟨hi, rfl, hin, HA.out, HB.out, HX.out⟩
def legUp (fs : List F3) (t : Int) : Nat → Nat
  | 0 => 0
  | n + 1 => if (fx fs n).t ≤ t then n else legUp fs t n
def legOf (fs : List F3) (t : Int) : Nat := legUp fs t (fs.length - 1)
theorem legUp_lt (fs : List F3) (t : Int) : ∀ n, 0 < n → legUp fs t n < n
  | 0, h => absurd h (by omega)
  | n + 1, _ => by
    unfold legUp
    split
    · omega
    · rcases Nat.eq_zero_or_pos n with h | h
      · subst h; simp [legUp]
      · have := legUp_lt fs t n h; omega
theorem legUp_pred (fs : List F3) (t : Int) (h : Nat) (h1 : 1 ≤ h) : ∀ n, h ≤ n → (∀ i, i < h → (fx fs i).t ≤ t) → (∀ i, h ≤ i → i < n → t < (fx fs i).t) → legUp fs t n = h - 1
  | 0, hn, _, _ => absurd hn (by omega)
  | n + 1, hn, ha, hb => by
    unfold legUp
    by_cases e : h = n + 1
    · rw [if_pos (ha n (by omega))]; omega
    · rw [if_neg (by have := hb n (by omega) (by omega); omega)]
      exact legUp_pred fs t h h1 n (by omega) ha (fun i g1 g2 => hb i g1 (by omega))
theorem legUp_at (fs : List F3) (t : Int) (h0 : (fx fs 0).t ≤ t) : ∀ n, (fx fs (legUp fs t n)).t ≤ t
  | 0 => by simpa [legUp] using h0
  | n + 1 => by
    unfold legUp
    split
    · assumption
    · exact legUp_at fs t h0 n
theorem legUp_next (fs : List F3) (t : Int) : ∀ n i, legUp fs t n < i → i < n → t < (fx fs i).t
  | 0, i, _, h => absurd h (by omega)
  | n + 1, i, h, hn => by
    unfold legUp at h
    split at h
    · omega
    · by_cases e : i = n
      · subst e; omega
      · exact legUp_next fs t n i h (by omega)
theorem okB_lt {fs : List F3} {k : Nat} (h : okB fs (k + 1) = true) : (fx fs k).t < (fx fs (k + 1)).t := by
  unfold okB at h
  simp at h
  exact h.2
theorem times_lt {fs : List F3} (h : trB fs = true) (a : Nat) : ∀ b, a < b → b < fs.length → (fx fs a).t < (fx fs b).t
  | 0, hab, _ => absurd hab (by omega)
  | b + 1, hab, hb => by
    have := okB_lt ((trB_yes h).2 (b + 1) hb)
    by_cases e : a = b
    · subst e; exact this
    · have := times_lt h a b (by omega) (by omega); omega
theorem lastAtMost_any (b off cap n : Nat) (fs : List F3) (t : Int) (w : World) (hn : n ≤ 1000000) (hb : ∀ i, i < n → At w b (off + i * 3) (fx fs i)) (hmono : ∀ i j, i ≤ j → j < n → (fx fs i).t ≤ (fx fs j).t) :
    Calls Try.prog 58 #[.slice (some ⟨b, off, none⟩) n cap, .int .i64 t, .func (.func 60) #[] #[]] w fun e w' =>
      ∃ h : Nat, e = .returned (.int .i64 ((h : Int) - 1)) ∧ h ≤ n ∧ (∀ i, i < h → (fx fs i).t ≤ t) ∧ (∀ i, h ≤ i → i < n → t < (fx fs i).t) ∧ Ext w w' := by
  have HB := Lib.hid hb
  have HM := Lib.hid hmono
  clear hb hmono
  go_enter Try.func58, Try.ntmps58
  go_wp2_with fail
  refine (search_any n (fun i => decide (t < (fx fs i).t)) _ _ _ _ hn (fun w' hx i hi => above_any b off cap n i _ _ _ (fx fs i) t w' hi (((HB.out i hi).ext (((Ext.refl _).alloc _).alloc _ |>.alloc _)).ext hx) ?_ ?_ ?_) ?_).mono ?_
  · exact hx.cellOf (boxed 0 rfl (by simp))
  · exact hx.cellOf ((((Ext.refl _).alloc _).alloc _).cellOf (boxed 0 rfl rfl))
  · exact hx.cellOf (((Ext.refl _).alloc _).cellOf (boxed 0 rfl (by simp)))
  · intro i j hij hj h
    simp at h ⊢
    have := HM.out i j hij hj
    omega
  rintro e w1 ⟨h, rfl, hh, ha, hb, hx⟩
  have HX := Lib.hid hx
  have HA := Lib.hid ha
  have HB2 := Lib.hid hb
  clear ha hb hx
  have T0 : IntKind.i64.wrap ((h : Int) - 1) = (h : Int) - 1 := IntWalk.i64_in _ (by omega)
  go_wp2
  go_ret
  exact ⟨h, rfl, hh, fun i hi => by have := HA.out i hi; simp at this; exact this, fun i h1 h2 => by have := HB2.out i h1 h2; simp at this; exact this, (((Ext.refl _).alloc _).alloc _ |>.alloc _).trans HX.out⟩
end Go.Proofs.Ytnjjmoefiacbhaa.Trk
namespace Go.Proofs.Ytnjjmoefiacbhaa.Trk
open Go.ChangeShapes Go.WideShapes Go.ChangeAt Go.RowKit
open Go.Proofs.Ytnjjmoefiacbhaa.Num Go.Proofs.Ytnjjmoefiacbhaa.Kit Go.Proofs.Ytnjjmoefiacbhaa.Pts
set_option linter.unusedVariables false
set_option linter.unusedSimpArgs false
theorem lastB_yes {fs : List F3} {t : Int} (h : lastB fs t = true) : (fx fs 0).t ≤ t ∧ t ≤ (fx fs (fs.length - 1)).t := by simpa [lastB, inB] using h
theorem times_le {fs : List F3} (h : trB fs = true) (i j : Nat) (hij : i ≤ j) (hj : j < fs.length) : (fx fs i).t ≤ (fx fs j).t := by
  by_cases e : i = j
  · subst e; omega
  · have := times_lt h i j (by omega) hj; omega
theorem legAt_any (a : Option Addr) (cap : Nat) (fs : List F3) (t : Int) (w : World) (hf : Fxs w a fs) (hcap : fs.length ≤ cap) (hv : trB fs = true) (hl : lastB fs t = true) :
    Calls Try.prog 49 #[Tr (.slice a fs.length cap), .int .i64 t] w fun e w' => e = .returned (.int .i64 (legOf fs t)) ∧ Ext w w' := by
  obtain ⟨⟨h2, h40⟩, _⟩ := trB_yes hv
  have hm := hf.1
  rcases hf.2 with h | ⟨b, off, rfl, hb⟩
  · rw [h] at h2; simp at h2
  have HV := Lib.hid hv
  have HL := Lib.hid hl
  have HB := Lib.hid hb
  clear hf hb hv hl
  have i0 : (0 : Int) ≤ ((fs.length - 1 : Nat) : Int) := by omega
  have i1 : ((fs.length - 1 : Nat) : Int) ≤ (cap : Int) := by omega
  have T1 : (((fs.length - 1 : Nat) : Int)).toNat = fs.length - 1 := by omega
  go_enter Try.func49, Try.ntmps49
  go_wp2_with fail
  have e0 : ∀ w', Ext (w.alloc (.cells #[.slice (some ⟨b, off, none⟩) fs.length cap] 28)) w' → w'.cell? ⟨w.heap.size, 0, none⟩ = some (.slice (some ⟨b, off, none⟩) fs.length cap) := fun w' h => h.cellOf (boxed 0 rfl rfl)
  refine wp_region_held_drew (S := (fun w' => Ext (w.alloc (.cells #[.slice (some ⟨b, off, none⟩) fs.length cap] 28)) w')) (by kernel_rfl) (by (try dsimp only); first | go_keep | exact (Ext.refl _).drew | exact Res.new2.drew | exact Res.new4.drew | exact ResB.drew (by assumption) | exact ResC.drew (by assumption) | assumption | exact Ext.drew (by assumption) | exact Res.drew (by assumption)) (fun hHeld => ?_)
  (refine Ord.k 0 5 (v := ?_) ?_ ?_; rotate_left; (intro w h; (try dsimp only at h); go_simp; (try with_reducible rfl)); (try simp only [Act.put, Ord.a, Ord.b, Ord.c]))
  (refine Ord.k 1 6 (v := ?_) ?_ ?_; rotate_left; (intro w h; (try dsimp only at h); go_simp; (try with_reducible rfl)); (try simp only [Act.put, Ord.a, Ord.b, Ord.c]))
  (refine Ord.k 2 7 (v := ?_) ?_ ?_; rotate_left; (intro w h; (try dsimp only at h); go_simp; (try with_reducible rfl)); (try simp only [Act.put, Ord.a, Ord.b, Ord.c]))
  (refine Ord.k 5 10 (v := ?_) ?_ ?_; rotate_left; (intro w h; (try dsimp only at h); go_simp; (try with_reducible rfl)); (try simp only [Act.put, Ord.a, Ord.b, Ord.c]))
  (refine wpAnyH_ready (rs := [3]) (by kernel_rfl) (by simp) ?_; refine AllReadyH.cons rfl (fun K hK => ?_) AllReadyH.nil; go_simp; (first | (go_at_call 59; refine (legCount_any _ _ _ _ (by omega) (by omega)).mono ?_; rintro e w1 ⟨rfl, hy⟩) | (go_at_call 58; refine (lastAtMost_any b off cap (fs.length - 1) fs t _ (by omega) (fun i hi => ((HB.out i (by omega)).ext ((Ext.refl _).alloc _)).ext (by assumption)) (fun i j hij hj => times_le HV.out i j hij (by omega))).mono ?_; rintro e w2 ⟨h, rfl, hh, ha, hb, hy⟩)); go_wp2_with fail; (refine hK.out _ _ (by first | assumption | exact Ext.trans (by assumption) hy | exact Res.ext (by assumption) hy | exact ResB.ext (by assumption) hy | exact ResC.ext (by assumption) hy | (go_split_ands; (repeat' apply And.intro) <;> exact Ext.cellOf hy (by assumption))) (fun hHeld => ?_)); clear hK K; (try simp only [Act.put, Ord.a, Ord.b, Ord.c]))
  (refine Ord.k 4 9 (v := ?_) ?_ ?_; rotate_left; (intro w h; (try dsimp only at h); go_simp; (try with_reducible rfl)); (try simp only [Act.put, Ord.a, Ord.b, Ord.c]))
  (refine wpAnyH_ready (rs := [6]) (by kernel_rfl) (by simp) ?_; refine AllReadyH.cons rfl (fun K hK => ?_) AllReadyH.nil; go_simp; (first | (go_at_call 59; refine (legCount_any _ _ _ _ (by omega) (by omega)).mono ?_; rintro e w1 ⟨rfl, hy⟩) | (go_at_call 58; refine (lastAtMost_any b off cap (fs.length - 1) fs t _ (by omega) (fun i hi => ((HB.out i (by omega)).ext ((Ext.refl _).alloc _)).ext (by assumption)) (fun i j hij hj => times_le HV.out i j hij (by omega))).mono ?_; rintro e w2 ⟨h, rfl, hh, ha, hb, hy⟩)); go_wp2_with fail; (refine hK.out _ _ (by first | assumption | exact Ext.trans (by assumption) hy | exact Res.ext (by assumption) hy | exact ResB.ext (by assumption) hy | exact ResC.ext (by assumption) hy | (go_split_ands; (repeat' apply And.intro) <;> exact Ext.cellOf hy (by assumption))) (fun hHeld => ?_)); clear hK K; (try simp only [Act.put, Ord.a, Ord.b, Ord.c]))
  (refine Ord.k 7 4 (v := ?_) ?_ ?_; rotate_left; (intro w h; (try dsimp only at h); go_simp; (try with_reducible rfl)); (try simp only [Act.put, Ord.a, Ord.b, Ord.c]))
  refine wpAnyH_done (by kernel_rfl) ?_ _
  have hh1 : 1 ≤ h := by
    rcases Nat.eq_zero_or_pos h with g | g
    · have := hb 0 (by omega) (by omega); have := (lastB_yes HL.out).1; omega
    · exact g
  have E := Lib.hid (show ((legOf fs t : Nat) : Int) = (h : Int) - 1 by unfold legOf; rw [legUp_pred fs t h hh1 (fs.length - 1) hh ha hb]; omega)
  clear ha hb
  go_wp2
  go_ret
  exact ⟨ret_int E.out, ((Ext.refl _).alloc _).trans (by assumption)⟩
def RelL (w : World) (fs : List F3) (t : Int) (k i : Value) (wr : World) : Prop := ∃ n : Nat, i = .int .i64 n ∧ k = .int .i64 (legUp fs t n) ∧ n ≤ fs.length - 1 ∧ Ext w wr
theorem leg_spec (a : Option Addr) (cap : Nat) (fs : List F3) (t : Int) (w : World) (hf : Fxs w a fs) (h1 : 1 ≤ fs.length) (h40 : fs.length ≤ 1000000) :
    Calls Try.prog 47 #[Tr (.slice a fs.length cap), .int .i64 t] w fun e w' => e = .returned (.int .i64 (legOf fs t)) ∧ Ext w w' := by
  rcases hf.2 with h | ⟨b, off, rfl, hb⟩
  · rw [h] at h1; simp at h1
  have HB := Lib.hid hb
  clear hf hb
  go_enter Try.func47, Try.ntmps47
  go_wp2
  go_loopw [5, 6] (fun k i wr => RelL (w.alloc (.cells #[.slice (some ⟨b, off, none⟩) fs.length cap] 28)) fs t k i wr) (fun k i _ => fs.length - (intOf i).toNat)
  case atStart => exact ⟨0, rfl, rfl, Nat.zero_le _, Ext.refl _⟩
  case round =>
    obtain ⟨n, rfl, rfl, hn, hx⟩ := hrel
    have HX := Lib.hid hx
    have bx : wr.cell? ⟨w.heap.size, 0, none⟩ = some (.slice (some ⟨b, off, none⟩) fs.length cap) := hx.cellOf (boxed 0 rfl rfl)
    clear hx
    have T0 : IntKind.i64.wrap ((n : Int) + 1) = (n : Int) + 1 := IntWalk.i64_in _ (by omega)
    by_cases hn1 : n + 1 < fs.length
    · obtain ⟨c0, _, _⟩ := ((HB.out n (by omega)).ext ((Ext.refl _).alloc _)).ext HX.out
      have i0 : (0 : Int) ≤ (n : Int) := by omega
      have i1 : (n : Int) < (fs.length : Int) := by omega
      have z0 : decide ((n : Int) + 1 < (fs.length : Int)) = true := decide_eq_true (by omega)
      by_cases ht : (fx fs n).t ≤ t
      · have H := Lib.hid (show legUp fs t (n + 1) = n by rw [legUp, if_pos ht])
        go_wp2
        go_roundw
        case rel => exact ⟨n + 1, by go_num, by rw [H.out], by omega, HX.out⟩
        case measure => simp [intOf]; omega
      · have H := Lib.hid (show legUp fs t (n + 1) = legUp fs t n by rw [legUp, if_neg ht])
        have z1 : decide ((fx fs n).t ≤ t) = false := decide_eq_false ht
        go_wp2
        go_roundw
        case rel => exact ⟨n + 1, by go_num, by rw [H.out], by omega, HX.out⟩
        case measure => simp [intOf]; omega
    · have z0 : decide ((n : Int) + 1 < (fs.length : Int)) = false := decide_eq_false (by omega)
      obtain rfl : n = fs.length - 1 := by omega
      go_wp2
      go_ret
      exact ⟨rfl, ((Ext.refl _).alloc _).trans HX.out⟩
end Go.Proofs.Ytnjjmoefiacbhaa.Trk
