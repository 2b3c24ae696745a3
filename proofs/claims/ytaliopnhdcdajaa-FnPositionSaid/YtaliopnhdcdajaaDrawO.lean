/- The contract of DrawSpeedOf. -/
import Derived.Test.YtaliopnhdcdajaaDrawN
namespace Go.Proofs.Ytaliopnhdcdajaa.Trk
open Go.ChangeShapes Go.WideShapes Go.ChangeAt Go.RowKit
open Go.Proofs.Ytaliopnhdcdajaa.Num Go.Proofs.Ytaliopnhdcdajaa.Kit Go.Proofs.Ytaliopnhdcdajaa.Pts Go.Proofs.Ytaliopnhdcdajaa.Draw
set_option linter.unusedVariables false
set_option linter.unusedSimpArgs false

/-- While a draw gathers its results: a cell of block R may be written, box T holds the track. -/
def SD (w : World) (R T g n : Nat) (V : Value) (w' : World) : Prop := Res w R 1 w' ∧ T ≠ R ∧ g ≠ R ∧ w'.cell? ⟨T, 0, none⟩ = some V ∧ IntRow w' g n
theorem SD.chg {w : World} {R T g n B : Nat} {V : Value} {a b : World} (h : SD w R T g n V a) (k : Chg B a b) (h1 : R ≠ B) (h2 : T ≠ B) (h3 : g ≠ B) (h4 : w.heap.size ≤ B) : SD w R T g n V b :=
  ⟨⟨k.ext h.1.1 h4, h.1.2.1, fun i hi => by obtain ⟨v, c, f⟩ := h.1.2.2 i hi; exact ⟨v, k.cellOf h1 c, k.thawOf h1 c f⟩⟩, h.2.1, h.2.2.1, k.cellOf h2 h.2.2.2.1, h.2.2.2.2.chg k h3⟩
theorem SD.ext {w : World} {R T g n : Nat} {V : Value} {a b : World} (h : SD w R T g n V a) (k : Ext a b) : SD w R T g n V b :=
  ⟨h.1.ext k, h.2.1, h.2.2.1, k.cellOf h.2.2.2.1, h.2.2.2.2.ext k⟩
theorem SD.set {w : World} {R T g n : Nat} {V : Value} {a : World} (h : SD w R T g n V a) (u : Value) : SD w R T g n V (a.setCell ⟨R, 0, none⟩ u) :=
  ⟨h.1.set 0 u, h.2.1, h.2.2.1, by rw [World.cell?_setCell_other _ _ _ _ (fun e => h.2.1 (by simpa using congrArg Addr.block e.symm))]; exact h.2.2.2.1, h.2.2.2.2.chg ((Chg.refl _ _).setCell 0 u) h.2.2.1⟩
theorem SD.one {w : World} {R T g n : Nat} {V : Value} {a : World} (h : SD w R T g n V a) : ∃ v, a.cell? ⟨R, 0, none⟩ = some v ∧ a.frozen? ⟨R, 0, none⟩ = false := h.1.2.2 0 (by omega)

/-- A track and a number. -/
def TrN (w : World) (e : Ending) (w' : World) : Prop :=
  ∃ (g cap n : Nat) (k : Int), e = .returned (.tuple #[Tr (.slice (some ⟨g, 0, none⟩) n cap), .int .i64 k]) ∧ n ≤ 41 ∧ n ≤ cap ∧ IntRow w' g n ∧ Ext w w'

set_option maxRecDepth 100000 in
set_option maxHeartbeats 1000000 in
theorem drawSpeedOf_any (a : Option Addr) (len cap : Nat) (w : World) (hb : Bytes w a len) (hl : len ≤ 100000) : Calls Try.prog 35 #[.slice a len cap] w (TrN w) := by
  have HB := Lib.hid hb
  clear hb
  go_enter Try.func35, Try.ntmps35
  go_wp2_with fail
  refine (from_any _ _ _ _ (HB.out.ext (by repeat (first | exact Ext.refl _ | assumption | apply Ext.alloc | apply Ext.drew | (refine Ext.trans ?_ (by assumption)) | (refine Ext.setNew ?_ (by simp <;> omega) _)))) hl).mono ?_
  rintro e w1 ⟨B, rfl, hB, hs1, hx1⟩
  simp at hB
  have R1 : Res w w.heap.size 1 w1 := (Res.new (W := w) (vs := [.slice none 0 0]) (t := 35) rfl 1 rfl).ext hx1
  have hB1 := hs1.lt
  go_wp2_with fail
  refine (drawAnyT_any _ _ hs1).mono ?_
  rintro e w2 ⟨g, tc, n, rfl, h1, h41, htc, hg, hI, hs2, hc2⟩
  have hgl : g < w2.heap.size := World.block_lt_of_cell? w2 _ (hI 0 (by omega)).1.choose_spec
  have z2 := hc2.size
  have S3 : SD w w.heap.size w2.heap.size g n (.slice (some ⟨g, 0, none⟩) n tc) ((w2.alloc (.cells #[.slice (some ⟨g, 0, none⟩) n tc] 35)).drew) := by
    refine ⟨⟨((hc2.ext R1.1 (by omega)).alloc _).drew, Nat.le_refl _, fun i hi => ?_⟩, by omega, by omega, ((Ext.refl _).drew).cellOf (boxed 0 rfl rfl), hI.ext ((Ext.refl _).alloc _).drew⟩
    obtain ⟨v, c, f⟩ := R1.2.2 i hi
    exact ⟨v, ((Ext.refl _).alloc _).drew.cellOf (hc2.cellOf (by simp; omega) c), ((Ext.refl _).alloc _).drew.thawOf (hc2.cellOf (by simp; omega) c) (hc2.thawOf (by simp; omega) c f)⟩
  have hsA := (hs2.alloc (.cells #[.slice (some ⟨g, 0, none⟩) n tc] 35))
  obtain ⟨wA, hwA⟩ : ∃ wA, wA = w2.alloc (.cells #[.slice (some ⟨g, 0, none⟩) n tc] 35) := ⟨_, rfl⟩
  have et : ∀ w', SD w w.heap.size w2.heap.size g n (.slice (some ⟨g, 0, none⟩) n tc) w' → w'.cell? ⟨w2.heap.size, 0, none⟩ = some (.slice (some ⟨g, 0, none⟩) n tc) := fun w' h => h.2.2.2.1
  have X0 : IntKind.i64.wrap ((n : Int) + 1) = (n : Int) + 1 := IntWalk.i64_in _ (by omega)
  rw [← hwA] at S3 hsA
  have zA : wA.heap.size = w2.heap.size + 1 := by rw [hwA]; simp
  clear hx1 R1 hI hc2
  go_wp2_with fail
  rw [← hwA]
  clear hwA
  refine wp_region_held_drew (S := (SD w w.heap.size w2.heap.size g n (.slice (some ⟨g, 0, none⟩) n tc))) (by kernel_rfl) (by (try dsimp only); first | go_keep | exact (Ext.refl _).drew | exact Res.new2.drew | exact Res.new4.drew | exact ResB.drew (by assumption) | exact ResC.drew (by assumption) | assumption | exact Ext.drew (by assumption) | exact Res.drew (by assumption)) (fun hHeld => ?_)
  (refine Ord.takeH 0 10 (v := ?_) rfl rfl (by kernel_rfl) (by kernel_rfl) (by kernel_rfl) (fun _ _ _ h => h) (by rfl) ?_ (by assumption) ?_; rotate_left; (intro w hSw; (try dsimp only at hSw); go_simp; (first | done | with_reducible rfl)); (try simp only [Act.put, List.setIfInBounds_toArray, List.set_cons_zero, List.set_cons_succ]))
  (refine Ord.takeH 1 11 (v := ?_) rfl rfl (by kernel_rfl) (by kernel_rfl) (by kernel_rfl) (fun _ _ _ h => h) (by rfl) ?_ (by assumption) ?_; rotate_left; (intro w hSw; (try dsimp only at hSw); go_simp; (first | done | with_reducible rfl)); (try simp only [Act.put, List.setIfInBounds_toArray, List.set_cons_zero, List.set_cons_succ]))
  (refine Ord.takeH 2 12 (v := ?_) rfl rfl (by kernel_rfl) (by kernel_rfl) (by kernel_rfl) (fun _ _ _ h => h) (by rfl) ?_ (by assumption) ?_; rotate_left; (intro w hSw; (try dsimp only at hSw); go_simp; (first | done | with_reducible rfl)); (try simp only [Act.put, List.setIfInBounds_toArray, List.set_cons_zero, List.set_cons_succ]))
  (refine Ord.takeH 3 13 (v := ?_) rfl rfl (by kernel_rfl) (by kernel_rfl) (by kernel_rfl) (fun _ _ _ h => h) (by rfl) ?_ (by assumption) ?_; rotate_left; (intro w hSw; (try dsimp only at hSw); go_simp; (first | done | with_reducible rfl)); (try simp only [Act.put, List.setIfInBounds_toArray, List.set_cons_zero, List.set_cons_succ]))
  (refine Ord.takeH 4 14 (v := ?_) rfl rfl (by kernel_rfl) (by kernel_rfl) (by kernel_rfl) (fun _ _ _ h => h) (by rfl) ?_ (by assumption) ?_; rotate_left; (intro w hSw; (try dsimp only at hSw); go_simp; (first | done | with_reducible rfl)); (try simp only [Act.put, List.setIfInBounds_toArray, List.set_cons_zero, List.set_cons_succ]))
  (refine Ord.takeH 5 15 (v := ?_) rfl rfl (by kernel_rfl) (by kernel_rfl) (by kernel_rfl) (fun _ _ _ h => h) (by rfl) ?_ (by assumption) ?_; rotate_left; (intro w hSw; (try dsimp only at hSw); go_simp; (first | done | with_reducible rfl)); (try simp only [Act.put, List.setIfInBounds_toArray, List.set_cons_zero, List.set_cons_succ]))
  (refine Ord.takeH 7 17 (v := ?_) rfl rfl (by kernel_rfl) (by kernel_rfl) (by kernel_rfl) (fun _ _ _ h => h) (by rfl) ?_ (by assumption) ?_; rotate_left; (intro w hSw; (try dsimp only at hSw); go_simp; (first | done | with_reducible rfl)); (try simp only [Act.put, List.setIfInBounds_toArray, List.set_cons_zero, List.set_cons_succ]))
  (refine wpAnyH_ready (rs := [6]) (by kernel_rfl) (by simp) ?_; refine AllReadyH.cons rfl (fun K hK => ?_) AllReadyH.nil; go_simp; (go_at_call 71; refine (next_pos B _ _ (by first | exact hsA.drew | assumption) (by omega)).mono ?_; rintro e w4 ⟨r4, rfl, r40, r41, S4, c4⟩; have hS4 := SD.chg hHeld c4 (by omega) (by omega) (by omega) (by omega)); go_wp2_with fail; (refine hK.out _ _ (by first | assumption | exact Ext.trans (by assumption) hy | exact Res.ext (by assumption) hy | exact ResB.ext (by assumption) hy | exact ResC.ext (by assumption) hy | (go_split_ands; (repeat' apply And.intro) <;> exact Ext.cellOf hy (by assumption))) (fun hHeld => ?_)); clear hK K; (try simp only [Act.put, List.setIfInBounds_toArray, List.set_cons_zero, List.set_cons_succ]))
  (refine wpAnyH_ready (rs := [8]) (by kernel_rfl) (by simp) ?_; refine AllReadyH.cons rfl (fun K hK => ?_) AllReadyH.nil; go_simp; (go_at_call 71; refine (next_pos B _ _ (by first | exact hsA.drew | assumption) (by omega)).mono ?_; rintro e w4 ⟨r4, rfl, r40, r41, S4, c4⟩; have hS4 := SD.chg hHeld c4 (by omega) (by omega) (by omega) (by omega)); go_wp2_with fail; (refine hK.out _ _ (by first | assumption | exact Ext.trans (by assumption) hy | exact Res.ext (by assumption) hy | exact ResB.ext (by assumption) hy | exact ResC.ext (by assumption) hy | (go_split_ands; (repeat' apply And.intro) <;> exact Ext.cellOf hy (by assumption))) (fun hHeld => ?_)); clear hK K; (try simp only [Act.put, List.setIfInBounds_toArray, List.set_cons_zero, List.set_cons_succ]))
  (refine Ord.takeH 9 19 (v := ?_) rfl rfl (by kernel_rfl) (by kernel_rfl) (by kernel_rfl) (fun _ _ _ h => h) (by rfl) ?_ (by assumption) ?_; rotate_left; (intro w hSw; (try dsimp only at hSw); go_simp; (first | done | with_reducible rfl)); (try simp only [Act.put, List.setIfInBounds_toArray, List.set_cons_zero, List.set_cons_succ]))
  (refine Ord.takeH 10 20 (v := ?_) rfl rfl (by kernel_rfl) (by kernel_rfl) (by kernel_rfl) (fun _ _ _ h => h) (by rfl) ?_ (by assumption) ?_; rotate_left; (intro w hSw; (try dsimp only at hSw); go_simp; (first | done | with_reducible rfl)); (try simp only [Act.put, List.setIfInBounds_toArray, List.set_cons_zero, List.set_cons_succ]))
  ((first | ((first | refine Exists.elim (Res.two hHeld) (fun rx rh => ?_) | refine Exists.elim (ResC.two hHeld) (fun rx rh => ?_) | refine Exists.elim (Res.two hHeld.1) (fun rx rh => ?_)); refine Exists.elim rh (fun ry rb => ?_); have r0 := rb.two.1.1; have r1 := rb.two.1.2; have r2 := rb.two.2.1; have r3 := rb.two.2.2; clear rh) | ((first | refine Exists.elim (Res.four hHeld) (fun rx rh => ?_) | refine Exists.elim (Res.four hHeld.1) (fun rx rh => ?_)); refine Exists.elim rh (fun ry rh => ?_); refine Exists.elim rh (fun rz rh => ?_); refine Exists.elim rh (fun ru rb => ?_); have r0 := rb.four.1.1; have r1 := rb.four.1.2.1; have r2 := rb.four.1.2.2.1; have r3 := rb.four.1.2.2.2; have r4 := rb.four.2.1; have r5 := rb.four.2.2.1; have r6 := rb.four.2.2.2.1; have r7 := rb.four.2.2.2.2; clear rh) | (refine Exists.elim (Res.three hHeld) (fun rx rh => ?_); refine Exists.elim rh (fun ry rh => ?_); refine Exists.elim rh (fun rz rb => ?_); have r0 := rb.three'.1.1; have r1 := rb.three'.1.2.1; have r2 := rb.three'.1.2.2; have r3 := rb.three'.2.1; have r4 := rb.three'.2.2.1; have r5 := rb.three'.2.2.2; clear rh; (try simp only [World.cell?_drew, World.frozen?_drew] at r0 r1 r2 r3 r4 r5)) | (refine Exists.elim (Res.five hHeld) (fun rx rh => ?_); refine Exists.elim rh (fun ry rh => ?_); refine Exists.elim rh (fun rz rh => ?_); refine Exists.elim rh (fun ru rh => ?_); refine Exists.elim rh (fun rt rb => ?_); have r0 := rb.five.1.1; have r1 := rb.five.1.2.1; have r2 := rb.five.1.2.2.1; have r3 := rb.five.1.2.2.2.1; have r4 := rb.five.1.2.2.2.2; have r5 := rb.five.2.1; have r6 := rb.five.2.2.1; have r7 := rb.five.2.2.2.1; have r8 := rb.five.2.2.2.2.1; have r9 := rb.five.2.2.2.2.2; clear rh; (try simp only [World.cell?_drew, World.frozen?_drew] at r0 r1 r2 r3 r4 r5 r6 r7 r8 r9)) | (refine Exists.elim (SD.one hHeld) (fun rx rh => ?_); have r0 := rh.1; have r1 := rh.2; clear rh)); refine wpAnyH_ready (rs := [11]) (by kernel_rfl) (by simp) ?_; refine AllReadyH.cons rfl (fun K hK => ?_) AllReadyH.nil; go_simp; (refine hK.out _ _ (by first | with_reducible exact SD.set hHeld _ | with_reducible exact Res.set (Res.set hHeld _ _) _ _ | with_reducible exact ResB.set (ResB.set hHeld _ _) _ _ | with_reducible exact ResC.set (ResC.set hHeld _ _) _ _ | with_reducible exact Res.set (Res.set (Res.set (Res.set hHeld _ _) _ _) _ _) _ _ | with_reducible exact Res.set (Res.set (Res.set hHeld _ _) _ _) _ _ | with_reducible exact Res.set (Res.set (Res.set (Res.set (Res.set hHeld _ _) _ _) _ _) _ _) _ _) (fun hHeld => ?_)); clear hK K; (try simp only [Act.put, List.setIfInBounds_toArray, List.set_cons_zero, List.set_cons_succ]))
  (refine Ord.takeH 12 3 (v := ?_) rfl rfl (by kernel_rfl) (by kernel_rfl) (by kernel_rfl) (fun _ _ _ h => h) (by rfl) ?_ (by assumption) ?_; rotate_left; (intro w hSw; (try dsimp only at hSw); go_simp; (first | done | with_reducible rfl)); (try simp only [Act.put, List.setIfInBounds_toArray, List.set_cons_zero, List.set_cons_succ]))
  refine wpAnyH_done (by kernel_rfl) ?_ _
  have g0 : (w4.setCell ⟨w.heap.size, 0, none⟩ (.slice (some ⟨g, 0, none⟩) n tc)).cell? ⟨w.heap.size, 0, none⟩ = some (.slice (some ⟨g, 0, none⟩) n tc) := World.cell?_setCell_same _ _ _ r0
  generalize hkk : IntKind.i64.wrap (_ - IntKind.i64.wrap (r4.tdiv 15)) = kk
  go_wp2
  exact bodyPost_ret (v := .tuple #[Tr (.slice (some ⟨g, 0, none⟩) n tc), .int .i64 kk]) (by simp [results, Try.results35, go_sem, g0]) rfl ⟨g, tc, n, _, rfl, h41, htc, hHeld.2.2.2.2, hHeld.1.1⟩

end Go.Proofs.Ytaliopnhdcdajaa.Trk
