/- The contract of DrawCutTrack: a track and two numbers come out, and nothing that was there is written. -/
import Derived.Test.YtookaodccmlkoaaDrawQ
namespace Go.Proofs.Ytookaodccmlkoaa.Trk
open Go.ChangeShapes Go.WideShapes Go.ChangeAt Go.RowKit
open Go.Proofs.Ytookaodccmlkoaa.Num Go.Proofs.Ytookaodccmlkoaa.Kit Go.Proofs.Ytookaodccmlkoaa.Pts Go.Proofs.Ytookaodccmlkoaa.Draw
set_option linter.unusedVariables false
set_option linter.unusedSimpArgs false

/-- A track and two numbers. -/
def TrNN (w : World) (e : Ending) (w' : World) : Prop :=
  ∃ (g cap n : Nat) (p q : Int), e = .returned (.tuple #[Tr (.slice (some ⟨g, 0, none⟩) n cap), .int .i64 p, .int .i64 q]) ∧ n ≤ 41 ∧ n ≤ cap ∧ IntRow w' g n ∧ Ext w w'
theorem ct_done {r g cap k : Nat} {w F : World} {tmps : Array Value} {p q : Int} (g0 : F.cell? ⟨r, 0, none⟩ = some (.slice (some ⟨g, 0, none⟩) k cap)) (h2 : k ≤ 41) (h3 : k ≤ cap) (hI : IntRow F g k) (hC : Ext w F)
    (ha : tmps[2]? = some (.pointer (some ⟨r, 0, none⟩))) (hp : tmps[3]? = some (.int .i64 p)) (hq : tmps[4]? = some (.int .i64 q)) : bodyPost Try.prog Try.f31 (TrNN w) Exit.ret ⟨tmps, []⟩ F :=
  bodyPost_ret (v := .tuple #[Tr (.slice (some ⟨g, 0, none⟩) k cap), .int .i64 p, .int .i64 q]) (by simp [results, Try.results31, go_sem, ha, hp, hq, g0]) rfl ⟨g, cap, k, p, q, rfl, h2, h3, hI, hC⟩

set_option maxRecDepth 100000 in
set_option maxHeartbeats 2000000 in
theorem drawCutTrack_any (a : Option Addr) (len cap : Nat) (w : World) (hb : Bytes w a len) (hl : len ≤ 100000) : Calls Try.prog 31 #[.slice a len cap] w (TrNN w) := by
  have HB := Lib.hid hb
  clear hb
  go_enter Try.func31, Try.ntmps31
  go_wp2_with fail
  refine (from_any _ _ _ _ (HB.out.ext (by repeat (first | exact Ext.refl _ | assumption | apply Ext.alloc | apply Ext.drew | (refine Ext.trans ?_ (by assumption)) | (refine Ext.setNew ?_ (by simp <;> omega) _)))) hl).mono ?_
  rintro e w1 ⟨B, rfl, hB, hs1, hx1⟩
  simp at hB
  have R1 : Res w w.heap.size 1 w1 := (Res.new (W := w) (vs := [.slice none 0 0]) (t := 35) rfl 1 rfl).ext hx1
  have hB1 := hs1.lt
  go_wp2_with fail
  refine (drawAnyT_any _ _ hs1).mono ?_
  rintro e w2 ⟨g, tc, n, rfl, h1, h41, htc, hg, hI, hs2, hc2⟩
  have hgl : g < w2.heap.size := World.block_lt_of_cell? w2 _ (hI 0 (by omega)).1.choose_spec
  have z2 := hc2.size
  have S3 : SD w w.heap.size w2.heap.size g n (.slice (some ⟨g, 0, none⟩) n tc) ((w2.alloc (.cells #[.slice (some ⟨g, 0, none⟩) n tc] 35)).drew) := by
    refine ⟨⟨((hc2.ext R1.1 (by omega)).alloc _).drew, Nat.le_refl _, fun i hi => ?_⟩, by omega, by omega, ((Ext.refl _).drew).cellOf (boxed 0 rfl rfl), hI.ext ((Ext.refl _).alloc _).drew⟩
    obtain ⟨v, c, f⟩ := R1.2.2 i hi
    exact ⟨v, ((Ext.refl _).alloc _).drew.cellOf (hc2.cellOf (by simp; omega) c), ((Ext.refl _).alloc _).drew.thawOf (hc2.cellOf (by simp; omega) c) (hc2.thawOf (by simp; omega) c f)⟩
  have hsA := (hs2.alloc (.cells #[.slice (some ⟨g, 0, none⟩) n tc] 35))
  obtain ⟨wA, hwA⟩ : ∃ wA, wA = w2.alloc (.cells #[.slice (some ⟨g, 0, none⟩) n tc] 35) := ⟨_, rfl⟩
  have et : ∀ w', SD w w.heap.size w2.heap.size g n (.slice (some ⟨g, 0, none⟩) n tc) w' → w'.cell? ⟨w2.heap.size, 0, none⟩ = some (.slice (some ⟨g, 0, none⟩) n tc) := fun w' h => h.2.2.2.1
  rw [← hwA] at S3 hsA
  have zA : wA.heap.size = w2.heap.size + 1 := by rw [hwA]; simp
  clear hx1 R1 hI hc2
  go_wp2_with fail
  rw [← hwA]
  clear hwA
  refine wp_region_held_drew (S := (SD w w.heap.size w2.heap.size g n (.slice (some ⟨g, 0, none⟩) n tc))) (by kernel_rfl) (by (try dsimp only); first | go_keep | exact (Ext.refl _).drew | exact Res.new2.drew | exact Res.new4.drew | exact ResB.drew (by assumption) | exact ResC.drew (by assumption) | assumption | exact Ext.drew (by assumption) | exact Res.drew (by assumption)) (fun hHeld => ?_)
  (refine Ord.takeH 0 13 (v := ?_) rfl rfl (by kernel_rfl) (by kernel_rfl) (by kernel_rfl) (fun _ _ _ h => h) (by rfl) ?_ (by assumption) ?_; rotate_left; (intro w hSw; (try dsimp only at hSw); go_simp; (first | done | with_reducible rfl)); (try simp only [Act.put, List.setIfInBounds_toArray, List.set_cons_zero, List.set_cons_succ]))
  (refine Ord.takeH 1 14 (v := ?_) rfl rfl (by kernel_rfl) (by kernel_rfl) (by kernel_rfl) (fun _ _ _ h => h) (by rfl) ?_ (by assumption) ?_; rotate_left; (intro w hSw; (try dsimp only at hSw); go_simp; (first | done | with_reducible rfl)); (try simp only [Act.put, List.setIfInBounds_toArray, List.set_cons_zero, List.set_cons_succ]))
  (refine Ord.takeH 3 16 (v := ?_) rfl rfl (by kernel_rfl) (by kernel_rfl) (by kernel_rfl) (fun _ _ _ h => h) (by rfl) ?_ (by assumption) ?_; rotate_left; (intro w hSw; (try dsimp only at hSw); go_simp; (first | done | with_reducible rfl)); (try simp only [Act.put, List.setIfInBounds_toArray, List.set_cons_zero, List.set_cons_succ]))
  (refine Ord.takeH 4 17 (v := ?_) rfl rfl (by kernel_rfl) (by kernel_rfl) (by kernel_rfl) (fun _ _ _ h => h) (by rfl) ?_ (by assumption) ?_; rotate_left; (intro w hSw; (try dsimp only at hSw); go_simp; (first | done | with_reducible rfl)); (try simp only [Act.put, List.setIfInBounds_toArray, List.set_cons_zero, List.set_cons_succ]))
  (refine wpAnyH_ready (rs := [2]) (by kernel_rfl) (by simp) ?_; refine AllReadyH.cons rfl (fun K hK => ?_) AllReadyH.nil; go_simp; (go_at_call 73; refine (drawTime_any B g tc n _ (by first | exact hsA.drew | assumption) hHeld.2.2.2.2 (by omega) h1 h41 htc).mono ?_; rintro e w4 ⟨r4, rfl, S4, c4⟩; have hS4 := SD.chg hHeld c4 (by omega) (by omega) (by omega) (by omega)); go_wp2_with fail; (refine hK.out _ _ (by first | assumption | exact Ext.trans (by assumption) hy | exact Res.ext (by assumption) hy | exact ResB.ext (by assumption) hy | exact ResC.ext (by assumption) hy | (go_split_ands; (repeat' apply And.intro) <;> exact Ext.cellOf hy (by assumption))) (fun hHeld => ?_)); clear hK K; (try simp only [Act.put, List.setIfInBounds_toArray, List.set_cons_zero, List.set_cons_succ]))
  (refine wpAnyH_ready (rs := [5]) (by kernel_rfl) (by simp) ?_; refine AllReadyH.cons rfl (fun K hK => ?_) AllReadyH.nil; go_simp; (go_at_call 73; refine (drawTime_any B g tc n _ (by first | exact hsA.drew | assumption) hHeld.2.2.2.2 (by omega) h1 h41 htc).mono ?_; rintro e w4 ⟨r4, rfl, S4, c4⟩; have hS4 := SD.chg hHeld c4 (by omega) (by omega) (by omega) (by omega)); go_wp2_with fail; (refine hK.out _ _ (by first | assumption | exact Ext.trans (by assumption) hy | exact Res.ext (by assumption) hy | exact ResB.ext (by assumption) hy | exact ResC.ext (by assumption) hy | (go_split_ands; (repeat' apply And.intro) <;> exact Ext.cellOf hy (by assumption))) (fun hHeld => ?_)); clear hK K; (try simp only [Act.put, List.setIfInBounds_toArray, List.set_cons_zero, List.set_cons_succ]))
  (refine Ord.takeH 6 7 (v := ?_) rfl rfl (by kernel_rfl) (by kernel_rfl) (by kernel_rfl) (fun _ _ _ h => h) (by rfl) ?_ (by assumption) ?_; rotate_left; (intro w hSw; (try dsimp only at hSw); go_simp; (first | done | with_reducible rfl)); (try simp only [Act.put, List.setIfInBounds_toArray, List.set_cons_zero, List.set_cons_succ]))
  (refine Ord.takeH 7 8 (v := ?_) rfl rfl (by kernel_rfl) (by kernel_rfl) (by kernel_rfl) (fun _ _ _ h => h) (by rfl) ?_ (by assumption) ?_; rotate_left; (intro w hSw; (try dsimp only at hSw); go_simp; (first | done | with_reducible rfl)); (try simp only [Act.put, List.setIfInBounds_toArray, List.set_cons_zero, List.set_cons_succ]))
  refine wpAnyH_done (by kernel_rfl) ?_ _
  have HD := hHeld
  clear hHeld
  go_wp2_with fail
  refine (next_pos B _ _ S4 (by omega)).mono ?_
  rintro e w5 ⟨r5, rfl, r50, r51, hs5, c5⟩
  have HE := SD.chg HD c5 (by omega) (by omega) (by omega) (by omega)
  obtain ⟨vv, r0, r1⟩ := SD.one HE
  have et5 := et _ HE
  have g0 : (w5.setCell ⟨w.heap.size, 0, none⟩ (.slice (some ⟨g, 0, none⟩) n tc)).cell? ⟨w.heap.size, 0, none⟩ = some (.slice (some ⟨g, 0, none⟩) n tc) := World.cell?_setCell_same _ _ _ r0
  have HH := Lib.hid (SD.set HE (.slice (some ⟨g, 0, none⟩) n tc))
  clear HD HE et hS4 c4 c5 S3
  by_cases h : 0 < r5
  · have z0 : decide (0 < r5) = true := decide_eq_true h
    clear h
    go_wp2
    all_goals exact ct_done (r := w.heap.size) g0 h41 htc HH.out.2.2.2.2 HH.out.1.1 rfl rfl rfl
  · have z0 : decide (0 < r5) = false := decide_eq_false h
    clear h
    go_wp2
    exact ct_done (r := w.heap.size) g0 h41 htc HH.out.2.2.2.2 HH.out.1.1 rfl rfl rfl

end Go.Proofs.Ytookaodccmlkoaa.Trk
