/- Contracts of SpeedOf (impl, spec). -/
import Derived.Test.YtaliopnhdcdajaaWay
import Derived.Test.YtaliopnhdcdajaaRoot
namespace Go.Proofs.Ytaliopnhdcdajaa.Trk
open Go.ChangeShapes Go.WideShapes Go.ChangeAt Go.RowKit
open Go.Proofs.Ytaliopnhdcdajaa.Num Go.Proofs.Ytaliopnhdcdajaa.Kit Go.Proofs.Ytaliopnhdcdajaa.Pts Go.Proofs.Ytaliopnhdcdajaa.Seg Go.Proofs.Ytaliopnhdcdajaa.Rt Go.Proofs.Ytaliopnhdcdajaa.Root
set_option linter.unusedVariables false
set_option linter.unusedSimpArgs false

/-- The square of a leg's length. -/
def sqI (fs : List F3) (k : Nat) : Int := hdX fs k * hdX fs k + hdY fs k * hdY fs k
/-- What the root is taken of. -/
def spQ (fs : List F3) (k : Nat) : Int := sqI fs k * 1000000 / (durI fs k * durI fs k)
/-- The speed of a leg. -/
def spI (fs : List F3) (k : Nat) : Int := rt (if spQ fs k ≤ 1000000000000 then spQ fs k else 1000000000000)

theorem leg_bounds {fs : List F3} (hv : trB fs = true) {k : Nat} (hk : k + 1 < fs.length) :
    (Co (fx fs k).x ∧ Co (fx fs k).y ∧ Co (fx fs (k + 1)).x ∧ Co (fx fs (k + 1)).y) ∧ 1 ≤ durI fs k ∧ durI fs k ≤ 1000000000 := by
  obtain ⟨_, hok⟩ := trB_yes hv
  obtain ⟨t0, p0⟩ := fxB_yes (okB_fx (hok k (by omega)))
  obtain ⟨t1, p1⟩ := fxB_yes (okB_fx (hok (k + 1) hk))
  have := okB_lt (hok (k + 1) hk)
  exact ⟨⟨p0.1, p0.2, p1.1, p1.2⟩, by unfold durI; omega, by unfold durI; omega⟩

theorem sq_nonneg (x : Int) : 0 ≤ x * x := by
  rcases Int.le_total 0 x with h | h
  · exact Int.mul_nonneg h h
  · exact Int.mul_nonneg_of_nonpos_of_nonpos h h
theorem sqI_bounds {fs : List F3} (hv : trB fs = true) {k : Nat} (hk : k + 1 < fs.length) : 0 ≤ sqI fs k ∧ sqI fs k ≤ 8000000000000 := by
  obtain ⟨⟨a, b, c, d⟩, _⟩ := leg_bounds hv hk
  obtain ⟨_, h1⟩ := mul_bd (x := hdX fs k) (y := hdX fs k) 2000000 2000000 (by unfold hdX; omega) (by unfold hdX; omega)
  obtain ⟨_, h2⟩ := mul_bd (x := hdY fs k) (y := hdY fs k) 2000000 2000000 (by unfold hdY; omega) (by unfold hdY; omega)
  have := sq_nonneg (hdX fs k)
  have := sq_nonneg (hdY fs k)
  simp only [Int.reduceMul] at h1 h2
  unfold sqI
  exact ⟨by omega, by omega⟩

set_option maxHeartbeats 1000000 in
theorem speed_any (a : Option Addr) (cap : Nat) (fs : List F3) (k : Nat) (w : World) (hf : Fxs w a fs) (hk : k + 1 < fs.length) (hv : trB fs = true) :
    Calls Try.prog 73 #[Tr (.slice a fs.length cap), .int .i64 k] w fun e w' => e = .returned (.int .i64 (spI fs k)) ∧ Ext w w' := by
  obtain ⟨⟨h2, h40⟩, _⟩ := trB_yes hv
  obtain ⟨⟨ca, cb, cc, cd⟩, d0, d1⟩ := leg_bounds hv hk
  have HF := Lib.hid hf
  have HQ := Lib.hid (sqI_bounds hv hk)
  clear hf
  go_enter Try.func73, Try.ntmps73
  go_wp2_with fail
  refine (duration_any _ _ _ _ _ (HF.out.ext (by repeat (first | exact Ext.refl _ | assumption | apply Ext.alloc | apply Ext.drew | (refine Ext.trans ?_ (by assumption)) | (refine Ext.setNew ?_ (by simp <;> omega) _)))) hk hv).mono ?_
  rintro e w1 ⟨rfl, h⟩
  have X := Lib.hid (((Ext.refl w).alloc _).trans h)
  have b1 : w1.cell? ⟨w.heap.size, 0, none⟩ = some (.slice a fs.length cap) := h.cellOf (boxed 0 rfl rfl)
  clear h
  go_wp2_with fail
  refine (leg_any _ _ _ _ _ (HF.out.ext (X.out.trans (by repeat (first | exact Ext.refl _ | assumption | apply Ext.alloc | apply Ext.drew | (refine Ext.trans ?_ (by assumption)) | (refine Ext.setNew ?_ (by simp <;> omega) _))))) hk (by omega)).mono ?_
  rintro e w2 ⟨rfl, h⟩
  replace X := Lib.hid (X.out.trans h)
  clear h b1
  go_wp2_with fail
  refine (vector_any _ _ _ _ _ ca cb cc cd).mono ?_
  rintro e w3 ⟨rfl, h⟩
  replace X := Lib.hid (X.out.trans h)
  clear h
  go_wp2_with fail
  refine (squareLength_any _ _ _ (by omega) (by omega)).mono ?_
  rintro e w4 ⟨rfl, h⟩
  replace X := Lib.hid (X.out.trans h)
  clear h
  rw [show ((fx fs (k + 1)).x - (fx fs k).x) * ((fx fs (k + 1)).x - (fx fs k).x) + ((fx fs (k + 1)).y - (fx fs k).y) * ((fx fs (k + 1)).y - (fx fs k).y) = sqI fs k from rfl]
  have HS := Lib.hid (show spI fs k = rt (if sqI fs k * 1000000 / (durI fs k * durI fs k) ≤ 1000000000000 then sqI fs k * 1000000 / (durI fs k * durI fs k) else 1000000000000) from rfl)
  obtain ⟨q0, q1⟩ := HQ.out
  have D := mul_bd (x := durI fs k) (y := durI fs k) 1000000000 1000000000 (by omega) (by omega)
  have D1 : 1 ≤ durI fs k * durI fs k := by have := Int.mul_le_mul d0 d0 (by omega) (by omega); omega
  simp only [Int.reduceMul] at D
  clear ca cb cc cd
  generalize sqI fs k = Q at *
  generalize durI fs k = d at *
  have G : Q * 1000 * 1000 = Q * 1000000 := by omega
  have P0 : 0 ≤ Q * 1000000 / (d * d) := Int.ediv_nonneg (by omega) (by omega)
  by_cases hm : Q * 1000000 / (d * d) ≤ 1000000000000
  · have E := Lib.hid (show spI fs k = rt (Q * 1000000 / (d * d)) by rw [HS.out, if_pos hm])
    clear HS
    go_wp2_with fail
    refine (rootOf_in _ _ (by omega) (by omega)).mono ?_
    rintro e w5 ⟨rfl, rfl⟩
    go_wp2
    go_ret
    exact ⟨ret_int E.out, X.out⟩
  · have E := Lib.hid (show spI fs k = rt 1000000000000 by rw [HS.out, if_neg hm])
    clear HS
    go_wp2_with fail
    refine (rootOf_in _ _ (by omega) (by omega)).mono ?_
    rintro e w5 ⟨rfl, rfl⟩
    go_wp2
    go_ret
    exact ⟨ret_int E.out, X.out⟩

/-- What SpeedOf answers: the speed and the code. -/
def spC (fs : List F3) (l : Int) : Int := if trB fs = true then (if 0 ≤ l ∧ l + 1 < fs.length then 0 else 4) else 1
def spV (fs : List F3) (l : Int) : Int := if spC fs l = 0 then spI fs l.toNat else 0
theorem spC_bad {fs : List F3} {l : Int} (h : trB fs = false) : spC fs l = 1 := by unfold spC; rw [h]; simp
theorem spC_out {fs : List F3} {l : Int} (h : trB fs = true) (g : ¬ (0 ≤ l ∧ l + 1 < fs.length)) : spC fs l = 4 := by unfold spC; rw [if_pos h, if_neg g]
theorem spC_in {fs : List F3} {l : Int} (h : trB fs = true) (g : 0 ≤ l ∧ l + 1 < fs.length) : spC fs l = 0 := by unfold spC; rw [if_pos h, if_pos g]

/-- Is a number that of a leg? -/
def hlB (fs : List F3) (l : Int) : Bool := decide (0 ≤ l ∧ l + 1 < (fs.length : Int))
theorem hasLeg_any (a : Option Addr) (cap : Nat) (fs : List F3) (l : Int) (w : World) (h1 : 1 ≤ fs.length) (hm : fs.length ≤ 1000000) :
    Calls Try.prog 72 #[Tr (.slice a fs.length cap), .int .i64 l] w fun e w' => e = .returned (.bool (hlB fs l)) ∧ Ext w w' := by
  by_cases hl : 0 ≤ l
  · have H := Lib.hid (show hlB fs l = decide (l < ((fs.length - 1 : Nat) : Int)) from decide_eq_decide.2 (by omega))
    go_enter Try.func72, Try.ntmps72
    go_wp2_with (go_at_call 89; refine (legCount_any _ _ _ _ (by omega) (by omega)).mono ?_; rintro e w2 ⟨rfl, h⟩)
    go_ret
    exact ⟨ret_bool H.out, (by repeat (first | exact Ext.refl _ | assumption | apply Ext.alloc | apply Ext.drew | (refine Ext.trans ?_ (by assumption)) | (refine Ext.setNew ?_ (by simp <;> omega) _)))⟩
  · have H := Lib.hid (show hlB fs l = false from decide_eq_false (by omega))
    have hd : decide (0 ≤ l) = false := decide_eq_false hl
    go_enter Try.func72, Try.ntmps72
    go_wp2
    go_ret
    exact ⟨ret_bool H.out, (by repeat (first | exact Ext.refl _ | assumption | apply Ext.alloc | apply Ext.drew | (refine Ext.trans ?_ (by assumption)) | (refine Ext.setNew ?_ (by simp <;> omega) _)))⟩

theorem speedOf_impl (a : Option Addr) (cap : Nat) (fs : List F3) (l : Int) (w : World) (hf : Fxs w a fs) :
    Calls Try.prog 36 #[Tr (.slice a fs.length cap), .int .i64 l] w fun e w' => e = .returned (.tuple #[.int .i64 (spV fs l), .int .i64 (spC fs l)]) ∧ Ext w w' := by
  have HF := Lib.hid hf
  clear hf
  cases hv : trB fs
  · have H := Lib.hid (spC_bad (l := l) hv)
    have G := Lib.hid (show spV fs l = 0 by unfold spV; rw [H.out]; rfl)
    go_enter Try.func36, Try.ntmps36
    go_wp2_with (go_at_call 46; refine (trackValid_any _ _ _ _ (HF.out.ext (by repeat (first | exact Ext.refl _ | assumption | apply Ext.alloc | apply Ext.drew | (refine Ext.trans ?_ (by assumption)) | (refine Ext.setNew ?_ (by simp <;> omega) _))))).mono ?_; rw [hv]; rintro e w1 ⟨rfl, h1⟩)
    rw [G.out, H.out]
    go_ret2
    exact ⟨rfl, (by repeat (first | exact Ext.refl _ | assumption | apply Ext.alloc | apply Ext.drew | (refine Ext.trans ?_ (by assumption)) | (refine Ext.setNew ?_ (by simp <;> omega) _)))⟩
  obtain ⟨⟨h2, h40⟩, _⟩ := trB_yes hv
  go_enter Try.func36, Try.ntmps36
  go_wp2_with fail
  refine (trackValid_any _ _ _ _ (HF.out.ext (by repeat (first | exact Ext.refl _ | assumption | apply Ext.alloc | apply Ext.drew | (refine Ext.trans ?_ (by assumption)) | (refine Ext.setNew ?_ (by simp <;> omega) _))))).mono ?_
  rw [hv]
  rintro e w1 ⟨rfl, h⟩
  have X := Lib.hid (((Ext.refl w).alloc _).trans h)
  have b1 : w1.cell? ⟨w.heap.size, 0, none⟩ = some (.slice a fs.length cap) := h.cellOf (boxed 0 rfl rfl)
  clear h
  go_wp2_with fail
  refine (hasLeg_any _ _ _ _ _ (by omega) (by omega)).mono ?_
  by_cases hl : 0 ≤ l ∧ l + 1 < (fs.length : Int)
  · rw [show hlB fs l = true from decide_eq_true hl]
    rintro e w2 ⟨rfl, h⟩
    replace X := Lib.hid (X.out.trans h)
    replace b1 := h.cellOf b1
    clear h
    have H := Lib.hid (spC_in (l := l) hv (by omega))
    have G := Lib.hid (show spV fs l = spI fs l.toNat by unfold spV; rw [H.out]; rfl)
    obtain ⟨k, rfl⟩ : ∃ k : Nat, l = (k : Int) := ⟨l.toNat, by omega⟩
    have T : ((k : Int)).toNat = k := by omega
    rw [T] at G
    go_wp2_with fail
    refine (speed_any _ _ _ _ _ (HF.out.ext (X.out.trans (by repeat (first | exact Ext.refl _ | assumption | apply Ext.alloc | apply Ext.drew | (refine Ext.trans ?_ (by assumption)) | (refine Ext.setNew ?_ (by simp <;> omega) _))))) (by omega) hv).mono ?_
    rintro e w3 ⟨rfl, h⟩
    replace X := Lib.hid (X.out.trans h)
    clear h b1
    go_wp2
    rw [G.out, H.out]
    go_ret2
    exact ⟨rfl, X.out⟩
  · rw [show hlB fs l = false from decide_eq_false hl]
    rintro e w2 ⟨rfl, h⟩
    replace X := Lib.hid (X.out.trans h)
    clear h
    have H := Lib.hid (spC_out (l := l) hv (by omega))
    have G := Lib.hid (show spV fs l = 0 by unfold spV; rw [H.out]; rfl)
    go_wp2
    rw [G.out, H.out]
    go_ret2
    exact ⟨rfl, X.out⟩

set_option maxHeartbeats 1000000 in
theorem speedOf_spec (a : Option Addr) (cap : Nat) (fs : List F3) (l : Int) (w : World) (hf : Fxs w a fs) :
    Calls Try.prog 37 #[Tr (.slice a fs.length cap), .int .i64 l] w fun e w' => e = .returned (.tuple #[.int .i64 (spV fs l), .int .i64 (spC fs l)]) ∧ Ext w w' := by
  have HF := Lib.hid hf
  clear hf
  cases hv : trB fs
  · have H := Lib.hid (spC_bad (l := l) hv)
    have G := Lib.hid (show spV fs l = 0 by unfold spV; rw [H.out]; rfl)
    go_enter Try.func37, Try.ntmps37
    go_wp2_with (go_at_call 41; refine (isTrack_spec _ _ _ _ (HF.out.ext (by repeat (first | exact Ext.refl _ | assumption | apply Ext.alloc | apply Ext.drew | (refine Ext.trans ?_ (by assumption)) | (refine Ext.setNew ?_ (by simp <;> omega) _))))).mono ?_; rw [hv]; rintro e w1 ⟨rfl, h1⟩)
    rw [G.out, H.out]
    go_ret2
    exact ⟨rfl, (by repeat (first | exact Ext.refl _ | assumption | apply Ext.alloc | apply Ext.drew | (refine Ext.trans ?_ (by assumption)) | (refine Ext.setNew ?_ (by simp <;> omega) _)))⟩
  obtain ⟨⟨h2, h40⟩, _⟩ := trB_yes hv
  have T0 : IntKind.i64.wrap ((fs.length : Int) - 2) = (fs.length : Int) - 2 := IntWalk.i64_in _ (by omega)
  go_enter Try.func37, Try.ntmps37
  go_wp2_with fail
  refine (isTrack_spec _ _ _ _ (HF.out.ext (by repeat (first | exact Ext.refl _ | assumption | apply Ext.alloc | apply Ext.drew | (refine Ext.trans ?_ (by assumption)) | (refine Ext.setNew ?_ (by simp <;> omega) _))))).mono ?_
  rw [hv]
  rintro e w1 ⟨rfl, h⟩
  have X := Lib.hid (((Ext.refl w).alloc _).trans h)
  have b1 : w1.cell? ⟨w.heap.size, 0, none⟩ = some (.slice a fs.length cap) := h.cellOf (boxed 0 rfl rfl)
  clear h
  by_cases hl : 0 ≤ l ∧ l + 1 < fs.length
  · have H := Lib.hid (spC_in (l := l) hv hl)
    have G := Lib.hid (show spV fs l = spI fs l.toNat by unfold spV; rw [H.out]; rfl)
    have I := Lib.hid (show inB l 0 ((fs.length : Int) - 2) = true from inB_yes (by omega) (by omega))
    obtain ⟨k, rfl⟩ : ∃ k : Nat, l = (k : Int) := ⟨l.toNat, by omega⟩
    have hk : k + 1 < fs.length := by omega
    have T : ((k : Int)).toNat = k := by omega
    rw [T] at G
    go_wp2_with fail
    refine (in_any _ _ _ _).mono ?_
    rw [I.out]
    rintro e w2 ⟨rfl, rfl⟩
    go_wp2_with fail
    refine (heading_spec _ _ _ _ _ (HF.out.ext (X.out.trans (by repeat (first | exact Ext.refl _ | assumption | apply Ext.alloc | apply Ext.drew | (refine Ext.trans ?_ (by assumption)) | (refine Ext.setNew ?_ (by simp <;> omega) _))))) hk hv).mono ?_
    rintro e w3 ⟨rfl, h⟩
    replace X := Lib.hid (X.out.trans h)
    replace b1 := h.cellOf b1
    clear h
    rcases HF.out.2 with h0 | ⟨b, off, rfl, hb⟩
    · rw [h0] at hk; simp at hk
    obtain ⟨c0, _, _⟩ := (hb k (by omega)).ext X.out
    obtain ⟨e0, _, _⟩ := (hb (k + 1) hk).ext X.out
    clear hb
    obtain ⟨⟨ca, cb, cc, cd⟩, d0, d1⟩ := leg_bounds hv hk
    have HQ := sqI_bounds hv hk
    have hx1 : -2000000 ≤ hdX fs k ∧ hdX fs k ≤ 2000000 := by unfold hdX; omega
    have hy1 : -2000000 ≤ hdY fs k ∧ hdY fs k ≤ 2000000 := by unfold hdY; omega
    have HB := Lib.hid (And.intro hx1 hy1)
    have i0 : (0 : Int) ≤ (k : Int) := by omega
    have i1 : (k : Int) < (fs.length : Int) := by omega
    have i2 : (0 : Int) ≤ (k : Int) + 1 := by omega
    have i3 : (k : Int) + 1 < (fs.length : Int) := by omega
    have T1 : IntKind.i64.wrap ((k : Int) + 1) = (k : Int) + 1 := wrap_succ (by omega)
    have T2 : ((k : Int) + 1).toNat = k + 1 := by omega
    have T3 : IntKind.i64.wrap ((fx fs (k + 1)).t - (fx fs k).t) = durI fs k := by rw [IntWalk.i64_in _ (by unfold durI at d0 d1; omega)]; rfl
    clear ca cb cc cd hx1 hy1
    generalize hW : w3.alloc (.cells #[.int .i64 (hdX fs k), .int .i64 (hdY fs k)] 37) = W
    have hX : Ext w3 W := hW ▸ (Ext.refl w3).alloc _
    have ec : ∀ w', Ext W w' → w'.cell? ⟨w.heap.size, 0, none⟩ = some (.slice (some ⟨b, off, none⟩) fs.length cap) := fun w' h => h.cellOf (hX.cellOf b1)
    have ec0 : ∀ w', Ext W w' → w'.cell? ⟨b, off + k * 3, none⟩ = some (.int .i64 (fx fs k).t) := fun w' h => h.cellOf (hX.cellOf c0)
    have ed0 : ∀ w', Ext W w' → w'.cell? ⟨b, off + (k + 1) * 3, none⟩ = some (.int .i64 (fx fs (k + 1)).t) := fun w' h => h.cellOf (hX.cellOf e0)
    have ev0 : ∀ w', Ext W w' → w'.cell? ⟨w3.heap.size, 0, none⟩ = some (.int .i64 (hdX fs k)) := fun w' h => h.cellOf (hW ▸ boxed 0 rfl rfl)
    have ev1 : ∀ w', Ext W w' → w'.cell? ⟨w3.heap.size, 1, none⟩ = some (.int .i64 (hdY fs k)) := fun w' h => h.cellOf (hW ▸ boxed 1 rfl rfl)
    clear c0 e0 b1
    go_wp2_with fail
    refine wp_region_held_drew (S := (fun w' => Ext W w')) (by kernel_rfl) (by (try dsimp only); first | go_keep | exact (Ext.refl _).drew | exact Res.new2.drew | exact Res.new4.drew | exact ResB.drew (by assumption) | exact ResC.drew (by assumption) | assumption | exact Ext.drew (by assumption) | exact Res.drew (by assumption)) (fun hHeld => ?_)
    (refine Ord.takeH 0 21 (v := ?_) rfl rfl (by kernel_rfl) (by kernel_rfl) (by kernel_rfl) (fun _ _ _ h => h) (by rfl) ?_ (by assumption) ?_; rotate_left; (intro w hSw; (try dsimp only at hSw); go_simp; (first | done | with_reducible rfl)); (try simp only [Act.put, List.setIfInBounds_toArray, List.set_cons_zero, List.set_cons_succ]))
    (refine Ord.takeH 1 22 (v := ?_) rfl rfl (by kernel_rfl) (by kernel_rfl) (by kernel_rfl) (fun _ _ _ h => h) (by rfl) ?_ (by assumption) ?_; rotate_left; (intro w hSw; (try dsimp only at hSw); go_simp; (first | done | with_reducible rfl)); (try simp only [Act.put, List.setIfInBounds_toArray, List.set_cons_zero, List.set_cons_succ]))
    (refine Ord.takeH 2 23 (v := ?_) rfl rfl (by kernel_rfl) (by kernel_rfl) (by kernel_rfl) (fun _ _ _ h => h) (by rfl) ?_ (by assumption) ?_; rotate_left; (intro w hSw; (try dsimp only at hSw); go_simp; (first | done | with_reducible rfl)); (try simp only [Act.put, List.setIfInBounds_toArray, List.set_cons_zero, List.set_cons_succ]))
    (refine Ord.takeH 3 24 (v := ?_) rfl rfl (by kernel_rfl) (by kernel_rfl) (by kernel_rfl) (fun _ _ _ h => h) (by rfl) ?_ (by assumption) ?_; rotate_left; (intro w hSw; (try dsimp only at hSw); go_simp; (first | done | with_reducible rfl)); (try simp only [Act.put, List.setIfInBounds_toArray, List.set_cons_zero, List.set_cons_succ]))
    (refine Ord.takeH 4 25 (v := ?_) rfl rfl (by kernel_rfl) (by kernel_rfl) (by kernel_rfl) (fun _ _ _ h => h) (by rfl) ?_ (by assumption) ?_; rotate_left; (intro w hSw; (try dsimp only at hSw); go_simp; (first | done | with_reducible rfl)); (try simp only [Act.put, List.setIfInBounds_toArray, List.set_cons_zero, List.set_cons_succ]))
    (refine Ord.takeH 5 26 (v := ?_) rfl rfl (by kernel_rfl) (by kernel_rfl) (by kernel_rfl) (fun _ _ _ h => h) (by rfl) ?_ (by assumption) ?_; rotate_left; (intro w hSw; (try dsimp only at hSw); go_simp; (first | done | with_reducible rfl)); (try simp only [Act.put, List.setIfInBounds_toArray, List.set_cons_zero, List.set_cons_succ]))
    (refine Ord.takeH 6 27 (v := ?_) rfl rfl (by kernel_rfl) (by kernel_rfl) (by kernel_rfl) (fun _ _ _ h => h) (by rfl) ?_ (by assumption) ?_; rotate_left; (intro w hSw; (try dsimp only at hSw); go_simp; (first | done | with_reducible rfl)); (try simp only [Act.put, List.setIfInBounds_toArray, List.set_cons_zero, List.set_cons_succ]))
    (refine Ord.takeH 7 28 (v := ?_) rfl rfl (by kernel_rfl) (by kernel_rfl) (by kernel_rfl) (fun _ _ _ h => h) (by rfl) ?_ (by assumption) ?_; rotate_left; (intro w hSw; (try dsimp only at hSw); go_simp; (first | done | with_reducible rfl)); (try simp only [Act.put, List.setIfInBounds_toArray, List.set_cons_zero, List.set_cons_succ]))
    (refine Ord.takeH 8 29 (v := ?_) rfl rfl (by kernel_rfl) (by kernel_rfl) (by kernel_rfl) (fun _ _ _ h => h) (by rfl) ?_ (by assumption) ?_; rotate_left; (intro w hSw; (try dsimp only at hSw); go_simp; (first | done | with_reducible rfl)); (try simp only [Act.put, List.setIfInBounds_toArray, List.set_cons_zero, List.set_cons_succ]))
    (refine Ord.takeH 9 30 (v := ?_) rfl rfl (by kernel_rfl) (by kernel_rfl) (by kernel_rfl) (fun _ _ _ h => h) (by rfl) ?_ (by assumption) ?_; rotate_left; (intro w hSw; (try dsimp only at hSw); go_simp; (first | done | with_reducible rfl)); (try simp only [Act.put, List.setIfInBounds_toArray, List.set_cons_zero, List.set_cons_succ]))
    (refine Ord.takeH 10 31 (v := ?_) rfl rfl (by kernel_rfl) (by kernel_rfl) (by kernel_rfl) (fun _ _ _ h => h) (by rfl) ?_ (by assumption) ?_; rotate_left; (intro w hSw; (try dsimp only at hSw); go_simp; (first | done | with_reducible rfl)); (try simp only [Act.put, List.setIfInBounds_toArray, List.set_cons_zero, List.set_cons_succ]))
    (refine Ord.takeH 11 32 (v := ?_) rfl rfl (by kernel_rfl) (by kernel_rfl) (by kernel_rfl) (fun _ _ _ h => h) (by rfl) ?_ (by assumption) ?_; rotate_left; (intro w hSw; (try dsimp only at hSw); go_simp; (first | done | with_reducible rfl)); (try simp only [Act.put, List.setIfInBounds_toArray, List.set_cons_zero, List.set_cons_succ]))
    (refine Ord.takeH 12 33 (v := ?_) rfl rfl (by kernel_rfl) (by kernel_rfl) (by kernel_rfl) (fun _ _ _ h => h) (by rfl) ?_ (by assumption) ?_; rotate_left; (intro w hSw; (try dsimp only at hSw); go_simp; (first | done | with_reducible rfl)); (try simp only [Act.put, List.setIfInBounds_toArray, List.set_cons_zero, List.set_cons_succ]))
    (refine Ord.takeH 13 34 (v := ?_) rfl rfl (by kernel_rfl) (by kernel_rfl) (by kernel_rfl) (fun _ _ _ h => h) (by rfl) ?_ (by assumption) ?_; rotate_left; (intro w hSw; (try dsimp only at hSw); go_simp; (first | done | with_reducible rfl)); (try simp only [Act.put, List.setIfInBounds_toArray, List.set_cons_zero, List.set_cons_succ]))
    (refine Ord.takeH 14 7 (v := ?_) rfl rfl (by kernel_rfl) (by kernel_rfl) (by kernel_rfl) (fun _ _ _ h => h) (by rfl) ?_ (by assumption) ?_; rotate_left; (intro w hSw; (try dsimp only at hSw); go_simp; (first | done | with_reducible rfl)); (try simp only [Act.put, List.setIfInBounds_toArray, List.set_cons_zero, List.set_cons_succ]))
    refine wpAnyH_done (by kernel_rfl) ?_ _
    go_wp2_with fail
    refine (dot_any _ _ _ _ _ HB.out.1 HB.out.2 HB.out.1 HB.out.2).mono ?_
    rintro e w4 ⟨rfl, h⟩
    replace X := Lib.hid (X.out.trans (hX.trans (Ext.trans (by assumption) h)))
    clear h
    rw [show hdX fs k * hdX fs k + hdY fs k * hdY fs k = sqI fs k from rfl]
    have HS := Lib.hid (show spI fs k = rt (if sqI fs k * 1000000 / (durI fs k * durI fs k) ≤ 1000000000000 then sqI fs k * 1000000 / (durI fs k * durI fs k) else 1000000000000) from rfl)
    obtain ⟨q0, q1⟩ := HQ
    have D := mul_bd (x := durI fs k) (y := durI fs k) 1000000000 1000000000 (by omega) (by omega)
    have D1 : 1 ≤ durI fs k * durI fs k := by have := Int.mul_le_mul d0 d0 (by omega) (by omega); omega
    simp only [Int.reduceMul] at D
    clear ec ec0 ed0 ev0 ev1 T3 HB
    generalize sqI fs k = Q at *
    generalize durI fs k = d at *
    have GQ : 1000000 * Q = Q * 1000000 := by omega
    have P0 : 0 ≤ Q * 1000000 / (d * d) := Int.ediv_nonneg (by omega) (by omega)
    by_cases hm : Q * 1000000 / (d * d) < 1000000000000
    · have E := Lib.hid (show spI fs k = rt (Q * 1000000 / (d * d)) by rw [HS.out, if_pos (by omega)])
      clear HS
      go_wp2_with (go_at_call 75; refine (root_any _ _ (by omega) (by omega)).mono ?_; rintro e w5 ⟨rfl, rfl⟩)
      rw [G.out, H.out, E.out]
      go_ret2
      exact ⟨rfl, X.out⟩
    · have E := Lib.hid (show spI fs k = rt 1000000000000 by rw [HS.out]; split; rw [show Q * 1000000 / (d * d) = 1000000000000 by omega]; rfl)
      clear HS
      go_wp2_with (go_at_call 75; refine (root_any _ _ (by omega) (by omega)).mono ?_; rintro e w5 ⟨rfl, rfl⟩)
      rw [G.out, H.out, E.out]
      go_ret2
      exact ⟨rfl, X.out⟩
  · have H := Lib.hid (spC_out (l := l) hv hl)
    have G := Lib.hid (show spV fs l = 0 by unfold spV; rw [H.out]; rfl)
    have I := Lib.hid (show inB l 0 ((fs.length : Int) - 2) = false from inB_no (by omega))
    go_wp2_with fail
    refine (in_any _ _ _ _).mono ?_
    rw [I.out]
    rintro e w2 ⟨rfl, rfl⟩
    go_wp2
    rw [G.out, H.out]
    go_ret2
    exact ⟨rfl, X.out⟩

end Go.Proofs.Ytaliopnhdcdajaa.Trk
