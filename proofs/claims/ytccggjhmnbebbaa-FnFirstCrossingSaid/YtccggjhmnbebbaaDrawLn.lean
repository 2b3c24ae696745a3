/- Contracts of chapter 5's draws of a line for a track, and of both. -/
import Derived.Test.YtccggjhmnbebbaaDrawN
import Derived.Test.YtccggjhmnbebbaaDrawS
import Derived.Test.YtccggjhmnbebbaaBase
import Derived.Deep.DeepCutAuto
namespace Go.Proofs.Ytccggjhmnbebbaa.Trk
open Go.ChangeShapes Go.WideShapes Go.ChangeAt Go.RowKit
open Go.Proofs.Ytccggjhmnbebbaa.Num Go.Proofs.Ytccggjhmnbebbaa.Kit Go.Proofs.Ytccggjhmnbebbaa.Pts Go.Proofs.Ytccggjhmnbebbaa.Draw Go.Proofs.Ytccggjhmnbebbaa.Seg
set_option linter.unusedVariables false
set_option linter.unusedSimpArgs false

theorem wrap_bd (n : Int) : -9223372036854775808 ≤ IntKind.i64.wrap n ∧ IntKind.i64.wrap n ≤ 9223372036854775807 := by
  rw [IntKind.wrap_i64]; omega
theorem floor_half (a : Int) (w : World) (h1 : -9223372036854775808 ≤ a) (h2 : a ≤ 9223372036854775807) : Calls Try.prog 71 #[.int .i64 a, .int .i64 2] w fun e w' => (∃ q : Int, e = .returned (.int .i64 q)) ∧ w = w' := by
  have h : (a.tdiv 2).natAbs = a.natAbs / (2 : Int).natAbs := Int.natAbs_tdiv a 2
  have h3 : (2 : Int).natAbs = 2 := rfl
  rw [h3] at h
  have g1 : -4611686018427387904 ≤ a.tdiv 2 ∧ a.tdiv 2 ≤ 4611686018427387904 := by omega
  have W1 : IntKind.i64.wrap (a.tdiv 2) = a.tdiv 2 := IntWalk.i64_in _ (by omega)
  have W2 : IntKind.i64.wrap (a.tdiv 2 - 1) = a.tdiv 2 - 1 := IntWalk.i64_in _ (by omega)
  by_cases hm : a.tmod 2 < 0
  · go_enter Try.func71, Try.ntmps71
    go_wp2
    go_ret
    exact ⟨⟨_, rfl⟩, rfl⟩
  · go_enter Try.func71, Try.ntmps71
    go_wp2
    go_ret
    exact ⟨⟨_, rfl⟩, rfl⟩

theorem dl_done {B n : Nat} {w F : World} {tmps : Array Value} {a b c d : Int} (R : Box F n [.int .i64 a, .int .i64 b, .int .i64 c, .int .i64 d]) (hs : Src F B) (hC : Chg B w F) (ha : tmps[4]? = some (.pointer (some ⟨n, 0, none⟩))) :
    bodyPost Try.prog Try.f42 (ASg B w) Exit.ret ⟨tmps, []⟩ F := by
  obtain ⟨⟨g0, g1, g2, g3⟩, _⟩ := R.four
  exact bodyPost_ret (v := Sg a b c d) (by simp [results, Try.results42, go_sem, ha, g0, g1, g2, g3]) rfl ⟨a, b, c, d, rfl, hs, hC⟩

set_option maxRecDepth 100000 in
set_option maxHeartbeats 4000000 in
theorem drawLine_any (B g tc n : Nat) (w : World) (hs : Src w B) (hI : IntRow w g n) (hgB : g ≠ B) (h1 : 1 ≤ n) (h41 : n ≤ 41) (hcap : n ≤ tc) :
    Calls Try.prog 42 #[.pointer (some ⟨B, 0, none⟩), Tr (.slice (some ⟨g, 0, none⟩) n tc)] w (ASg B w) := by
  have hB := hs.lt
  have hgl : g < w.heap.size := World.block_lt_of_cell? w _ (hI 0 (by omega)).1.choose_spec
  obtain ⟨W0, hW0⟩ : ∃ W0, W0 = (w.alloc (.cells #[.slice (some ⟨g, 0, none⟩) n tc] 26)).alloc (.cells #[.int .i64 0, .int .i64 0, .int .i64 0, .int .i64 0] 30) := ⟨_, rfl⟩
  have hX : Ext w W0 := hW0 ▸ ((Ext.refl w).alloc _).alloc _
  have hz0 : W0.heap.size = w.heap.size + 1 + 1 := by rw [hW0]; simp
  have ct : W0.cell? ⟨w.heap.size, 0, none⟩ = some (.slice (some ⟨g, 0, none⟩) n tc) := by rw [hW0]; exact ((Ext.refl _).alloc _).cellOf (boxed 0 rfl rfl)
  have R := Lib.hid (show Box W0 (w.heap.size + 1) [.int .i64 0, .int .i64 0, .int .i64 0, .int .i64 0] by rw [hW0]; exact Box.new4 (by simp))
  have hC := Lib.hid (Chg.of_ext (B := B) hX)
  have hs0 := hs.ext hX
  have nT : w.heap.size ≠ B := by omega
  have nR : w.heap.size + 1 ≠ B := by omega
  replace hI := Lib.hid (hI.ext hX)
  clear hs hX
  go_enter Try.func42, Try.ntmps42
  by_cases h2 : n < 2
  · have t0 : decide ((n : Int) < 2) = true := decide_eq_true (by omega)
    go_wp2_with fail
    rw [← hW0]
    clear hW0 ct
    refine (drawSAny_any B _ hs0).mono ?_
    rintro e w2 ⟨x, y, z, t, rfl, hs2, hc⟩
    have gX : B < w2.heap.size := hs2.lt
    have zX := hc.size
    have X := Lib.hid (Box.new4 (w := w2) (n := w2.heap.size) (x := .int .i64 x) (y := .int .i64 y) (z := .int .i64 z) (u := .int .i64 t) (t := 65) rfl)
    replace R := Lib.hid ((R.out.chg hc nR).alloc (.cells #[.int .i64 x, .int .i64 y, .int .i64 z, .int .i64 t] 65))
    replace hC := (hC.out.trans hc).alloc (.cells #[.int .i64 x, .int .i64 y, .int .i64 z, .int .i64 t] 65)
    have hsA := hs2.alloc (.cells #[.int .i64 x, .int .i64 y, .int .i64 z, .int .i64 t] 65)
    clear hc hs0
    obtain ⟨⟨k0, k1, k2, k3⟩, l0, l1, l2, l3⟩ := R.out.four
    obtain ⟨⟨x0, x1, x2, x3⟩, z0, z1, z2, z3⟩ := X.out.four
    go_wp2
    exact dl_done (n := w.heap.size + 1) (Box.set4 R.out) (by repeat (first | with_reducible assumption | (with_reducible refine Src.setCell ?_ (by simp <;> omega) _))) (by repeat (first | with_reducible assumption | (with_reducible refine Chg.setNew ?_ (by simp <;> omega) _))) rfl
  have t0 : decide ((n : Int) < 2) = false := decide_eq_false (by omega)
  go_wp2_with fail
  rw [← hW0]
  clear hW0
  refine (next_pos B _ _ hs0 (by omega)).mono ?_
  rintro e w1 ⟨r1, rfl, r10, r11, hs1, hc⟩
  replace ct := hc.cellOf (by simp; omega) ct
  replace R := Lib.hid (R.out.chg hc nR)
  replace hI := Lib.hid (hI.out.chg hc hgB)
  replace hC := Lib.hid (hC.out.trans hc)
  have z1 := hc.size
  clear hc hs0
  by_cases hr : r1 = 0
  · have t1 : (r1 == 0) = true := beq_iff_eq.2 hr
    clear hr
    go_wp2_with fail
    refine (drawSAny_any B _ hs1).mono ?_
    rintro e w2 ⟨x, y, z, t, rfl, hs2, hc⟩
    have gX : B < w2.heap.size := hs2.lt
    have zX := hc.size
    have X := Lib.hid (Box.new4 (w := w2) (n := w2.heap.size) (x := .int .i64 x) (y := .int .i64 y) (z := .int .i64 z) (u := .int .i64 t) (t := 65) rfl)
    replace R := Lib.hid ((R.out.chg hc nR).alloc (.cells #[.int .i64 x, .int .i64 y, .int .i64 z, .int .i64 t] 65))
    replace hC := (hC.out.trans hc).alloc (.cells #[.int .i64 x, .int .i64 y, .int .i64 z, .int .i64 t] 65)
    have hsA := hs2.alloc (.cells #[.int .i64 x, .int .i64 y, .int .i64 z, .int .i64 t] 65)
    clear hc hs1 ct
    obtain ⟨⟨k0, k1, k2, k3⟩, l0, l1, l2, l3⟩ := R.out.four
    obtain ⟨⟨x0, x1, x2, x3⟩, z0, z1, z2, z3⟩ := X.out.four
    go_wp2
    exact dl_done (n := w.heap.size + 1) (Box.set4 R.out) (by repeat (first | with_reducible assumption | (with_reducible refine Src.setCell ?_ (by simp <;> omega) _))) (by repeat (first | with_reducible assumption | (with_reducible refine Chg.setNew ?_ (by simp <;> omega) _))) rfl
  have t1 : (r1 == 0) = false := beq_eq_false_iff_ne.2 hr
  clear hr
  have T0 : IntKind.i64.wrap ((n : Int) - 1) = (n : Int) - 1 := IntWalk.i64_in _ (by omega)
  go_wp2_with fail
  refine (next_any B _ _ hs1).mono ?_
  rintro e w2 ⟨r2, rfl, r20, r21, r22, hs2, hc⟩
  replace ct := hc.cellOf (by simp; omega) ct
  replace R := Lib.hid (R.out.chg hc nR)
  replace hI := Lib.hid (hI.out.chg hc hgB)
  replace hC := Lib.hid (hC.out.trans hc)
  have z2 := hc.size
  clear hc hs1 t0 t1
  obtain ⟨k, rfl⟩ : ∃ k : Nat, r2 = k := ⟨r2.toNat, by omega⟩
  have hk : k + 1 < n := by
    by_cases h : (1 : Int) < n - 1
    · have := r21 h; omega
    · have := r22 (by omega); omega
  obtain ⟨⟨f0, c0⟩, _⟩ := hI.out (k * 3) (by omega)
  obtain ⟨⟨f1, c1⟩, _⟩ := hI.out (k * 3 + 1) (by omega)
  obtain ⟨⟨f2, c2⟩, _⟩ := hI.out (k * 3 + 2) (by omega)
  obtain ⟨⟨g0, d0⟩, _⟩ := hI.out ((k + 1) * 3) (by omega)
  obtain ⟨⟨g1, d1⟩, _⟩ := hI.out ((k + 1) * 3 + 1) (by omega)
  obtain ⟨⟨g2, d2⟩, _⟩ := hI.out ((k + 1) * 3 + 2) (by omega)
  have i0 : (0 : Int) ≤ (k : Int) := by omega
  have i1 : (k : Int) < (n : Int) := by omega
  have i2 : (0 : Int) ≤ (k : Int) + 1 := by omega
  have i3 : (k : Int) + 1 < (n : Int) := by omega
  have T1 : IntKind.i64.wrap ((k : Int) + 1) = (k : Int) + 1 := IntWalk.i64_in _ (by omega)
  have T2 : ((k : Int) + 1).toNat = k + 1 := by omega
  have ec : ∀ w', Ext w2 w' → w'.cell? ⟨w.heap.size, 0, none⟩ = some (.slice (some ⟨g, 0, none⟩) n tc) := fun w' h => h.cellOf ct
  have ec0 : ∀ w', Ext w2 w' → w'.cell? ⟨g, k * 3, none⟩ = some (.int .i64 f0) := fun w' h => h.cellOf c0
  have ec1 : ∀ w', Ext w2 w' → w'.cell? ⟨g, k * 3 + 1, none⟩ = some (.int .i64 f1) := fun w' h => h.cellOf c1
  have ec2 : ∀ w', Ext w2 w' → w'.cell? ⟨g, k * 3 + 2, none⟩ = some (.int .i64 f2) := fun w' h => h.cellOf c2
  have ee0 : ∀ w', Ext w2 w' → w'.cell? ⟨g, (k + 1) * 3, none⟩ = some (.int .i64 g0) := fun w' h => h.cellOf d0
  have ee1 : ∀ w', Ext w2 w' → w'.cell? ⟨g, (k + 1) * 3 + 1, none⟩ = some (.int .i64 g1) := fun w' h => h.cellOf d1
  have ee2 : ∀ w', Ext w2 w' → w'.cell? ⟨g, (k + 1) * 3 + 2, none⟩ = some (.int .i64 g2) := fun w' h => h.cellOf d2
  clear c0 c1 c2 d0 d1 d2 ct r21 r22
  have gB2 := hs2.lt
  go_upto_region 5 with fail
  go_cut [7, 8] (fun s s2 wx => (∃ P, s = .pointer (some ⟨P, 0, none⟩) ∧ Box wx P [.int .i64 f0, .int .i64 f1, .int .i64 f2]) ∧ (∃ P, s2 = .pointer (some ⟨P, 0, none⟩) ∧ P ≠ B ∧ Box wx P [.int .i64 g0, .int .i64 g1, .int .i64 g2]) ∧ Ext w2 wx)
  case first =>
    go_region_held3 (fun w' => Ext w2 w')
      (repeat (first | exact Ext.refl _ | assumption | apply Ext.drew | apply Ext.alloc))
      (fail)
    all_goals
      go_wp2_with fail
      go_meet
      exact ⟨⟨_, rfl, (by first | exact ((Box.new3 rfl).alloc _).drew | exact (Box.new3 (by rw [World.size_alloc])).drew)⟩, ⟨_, rfl, (by simp <;> omega), (by first | exact ((Box.new3 rfl).alloc _).drew | exact (Box.new3 (by rw [World.size_alloc])).drew)⟩, ((Ext.refl _).alloc _ |>.alloc _).drew⟩
  case rest =>
    obtain ⟨⟨P, rfl, HP⟩, ⟨Q, rfl, nQ, HQ⟩, hx⟩ := hcut
    obtain ⟨w3, rfl⟩ : ∃ w3 : World, w3 = wc := ⟨_, rfl⟩
    have hs3 := hs2.ext hx
    have gB3 := hs3.lt
    have R3 := Lib.hid (R.out.ext hx)
    have hC3 := Lib.hid (hC.out.trans (Chg.of_ext hx))
    have z3 := Ext.size hx
    have q1 : ∀ w', Ext w3 w' → w'.cell? ⟨P, 1, none⟩ = some (.int .i64 f1) := fun w' h => h.cellOf (HP 1 _ rfl).1
    have q2 : ∀ w', Ext w3 w' → w'.cell? ⟨P, 2, none⟩ = some (.int .i64 f2) := fun w' h => h.cellOf (HP 2 _ rfl).1
    have p1 : ∀ w', Ext w3 w' → w'.cell? ⟨Q, 1, none⟩ = some (.int .i64 g1) := fun w' h => h.cellOf (HQ 1 _ rfl).1
    have p2 : ∀ w', Ext w3 w' → w'.cell? ⟨Q, 2, none⟩ = some (.int .i64 g2) := fun w' h => h.cellOf (HQ 2 _ rfl).1
    have FL := Lib.hid (fun (x y : Int) (w' : World) => floor_half (IntKind.i64.wrap (x + y)) w' (wrap_bd _).1 (wrap_bd _).2)
    clear ec ec0 ec1 ec2 ee0 ee1 ee2 hx hs2 R hC HP
    go_upto_region 6 with fail
    have hr3 := Ext.refl w3
    refine wp_region_held_drew (S := (fun w' => Ext w3 w')) (by kernel_rfl) (by (try dsimp only); first | go_keep | exact (Ext.refl _).drew | exact Res.new2.drew | exact Res.new4.drew | exact ResB.drew (by assumption) | exact ResC.drew (by assumption) | assumption | exact Ext.drew (by assumption) | exact Res.drew (by assumption)) (fun hHeld => ?_)
    (refine Ord.takeH 0 46 (v := ?_) rfl rfl (by kernel_rfl) (by kernel_rfl) (by kernel_rfl) (fun _ _ _ h => h) (by rfl) ?_ (by assumption) ?_; rotate_left; (intro w hSw; (try dsimp only at hSw); go_simp; (first | done | with_reducible rfl)); (try simp only [Act.put, List.setIfInBounds_toArray, List.set_cons_zero, List.set_cons_succ]))
    (refine Ord.takeH 1 47 (v := ?_) rfl rfl (by kernel_rfl) (by kernel_rfl) (by kernel_rfl) (fun _ _ _ h => h) (by rfl) ?_ (by assumption) ?_; rotate_left; (intro w hSw; (try dsimp only at hSw); go_simp; (first | done | with_reducible rfl)); (try simp only [Act.put, List.setIfInBounds_toArray, List.set_cons_zero, List.set_cons_succ]))
    (refine Ord.takeH 2 48 (v := ?_) rfl rfl (by kernel_rfl) (by kernel_rfl) (by kernel_rfl) (fun _ _ _ h => h) (by rfl) ?_ (by assumption) ?_; rotate_left; (intro w hSw; (try dsimp only at hSw); go_simp; (first | done | with_reducible rfl)); (try simp only [Act.put, List.setIfInBounds_toArray, List.set_cons_zero, List.set_cons_succ]))
    (refine Ord.takeH 3 49 (v := ?_) rfl rfl (by kernel_rfl) (by kernel_rfl) (by kernel_rfl) (fun _ _ _ h => h) (by rfl) ?_ (by assumption) ?_; rotate_left; (intro w hSw; (try dsimp only at hSw); go_simp; (first | done | with_reducible rfl)); (try simp only [Act.put, List.setIfInBounds_toArray, List.set_cons_zero, List.set_cons_succ]))
    (refine Ord.takeH 4 50 (v := ?_) rfl rfl (by kernel_rfl) (by kernel_rfl) (by kernel_rfl) (fun _ _ _ h => h) (by rfl) ?_ (by assumption) ?_; rotate_left; (intro w hSw; (try dsimp only at hSw); go_simp; (first | done | with_reducible rfl)); (try simp only [Act.put, List.setIfInBounds_toArray, List.set_cons_zero, List.set_cons_succ]))
    (refine Ord.takeH 6 52 (v := ?_) rfl rfl (by kernel_rfl) (by kernel_rfl) (by kernel_rfl) (fun _ _ _ h => h) (by rfl) ?_ (by assumption) ?_; rotate_left; (intro w hSw; (try dsimp only at hSw); go_simp; (first | done | with_reducible rfl)); (try simp only [Act.put, List.setIfInBounds_toArray, List.set_cons_zero, List.set_cons_succ]))
    (refine Ord.takeH 7 53 (v := ?_) rfl rfl (by kernel_rfl) (by kernel_rfl) (by kernel_rfl) (fun _ _ _ h => h) (by rfl) ?_ (by assumption) ?_; rotate_left; (intro w hSw; (try dsimp only at hSw); go_simp; (first | done | with_reducible rfl)); (try simp only [Act.put, List.setIfInBounds_toArray, List.set_cons_zero, List.set_cons_succ]))
    (refine Ord.takeH 8 54 (v := ?_) rfl rfl (by kernel_rfl) (by kernel_rfl) (by kernel_rfl) (fun _ _ _ h => h) (by rfl) ?_ (by assumption) ?_; rotate_left; (intro w hSw; (try dsimp only at hSw); go_simp; (first | done | with_reducible rfl)); (try simp only [Act.put, List.setIfInBounds_toArray, List.set_cons_zero, List.set_cons_succ]))
    (refine Ord.takeH 9 55 (v := ?_) rfl rfl (by kernel_rfl) (by kernel_rfl) (by kernel_rfl) (fun _ _ _ h => h) (by rfl) ?_ (by assumption) ?_; rotate_left; (intro w hSw; (try dsimp only at hSw); go_simp; (first | done | with_reducible rfl)); (try simp only [Act.put, List.setIfInBounds_toArray, List.set_cons_zero, List.set_cons_succ]))
    (refine Ord.takeH 10 56 (v := ?_) rfl rfl (by kernel_rfl) (by kernel_rfl) (by kernel_rfl) (fun _ _ _ h => h) (by rfl) ?_ (by assumption) ?_; rotate_left; (intro w hSw; (try dsimp only at hSw); go_simp; (first | done | with_reducible rfl)); (try simp only [Act.put, List.setIfInBounds_toArray, List.set_cons_zero, List.set_cons_succ]))
    (refine wpAnyH_ready (rs := [5]) (by kernel_rfl) (by simp) ?_; refine AllReadyH.cons rfl (fun K hK => ?_) AllReadyH.nil; go_simp; (go_at_call 71; refine (FL.out _ _ _).mono ?_; rintro e w4 ⟨⟨_, rfl⟩, rfl⟩); go_wp2_with fail; (refine hK.out _ _ (by first | assumption | exact Ext.trans (by assumption) hy | exact Res.ext (by assumption) hy | exact ResB.ext (by assumption) hy | exact ResC.ext (by assumption) hy | (go_split_ands; (repeat' apply And.intro) <;> exact Ext.cellOf hy (by assumption))) (fun hHeld => ?_)); clear hK K; (try simp only [Act.put, List.setIfInBounds_toArray, List.set_cons_zero, List.set_cons_succ]))
    (refine wpAnyH_ready (rs := [11]) (by kernel_rfl) (by simp) ?_; refine AllReadyH.cons rfl (fun K hK => ?_) AllReadyH.nil; go_simp; (go_at_call 71; refine (FL.out _ _ _).mono ?_; rintro e w4 ⟨⟨_, rfl⟩, rfl⟩); go_wp2_with fail; (refine hK.out _ _ (by first | assumption | exact Ext.trans (by assumption) hy | exact Res.ext (by assumption) hy | exact ResB.ext (by assumption) hy | exact ResC.ext (by assumption) hy | (go_split_ands; (repeat' apply And.intro) <;> exact Ext.cellOf hy (by assumption))) (fun hHeld => ?_)); clear hK K; (try simp only [Act.put, List.setIfInBounds_toArray, List.set_cons_zero, List.set_cons_succ]))
    (refine Ord.takeH 12 9 (v := ?_) rfl rfl (by kernel_rfl) (by kernel_rfl) (by kernel_rfl) (fun _ _ _ h => h) (by rfl) ?_ (by assumption) ?_; rotate_left; (intro w hSw; (try dsimp only at hSw); go_simp; (first | done | with_reducible rfl)); (try simp only [Act.put, List.setIfInBounds_toArray, List.set_cons_zero, List.set_cons_succ]))
    (refine Ord.takeH 13 10 (v := ?_) rfl rfl (by kernel_rfl) (by kernel_rfl) (by kernel_rfl) (fun _ _ _ h => h) (by rfl) ?_ (by assumption) ?_; rotate_left; (intro w hSw; (try dsimp only at hSw); go_simp; (first | done | with_reducible rfl)); (try simp only [Act.put, List.setIfInBounds_toArray, List.set_cons_zero, List.set_cons_succ]))
    refine wpAnyH_done (by kernel_rfl) ?_ _
    have hs4 := hs3.ext hHeld
    have R4 := Lib.hid (R3.out.ext hHeld)
    have hC4 := Lib.hid (hC3.out.trans (Chg.of_ext hHeld))
    have x1 := p1 _ hHeld
    have x2 := p2 _ hHeld
    have gB4 := hs4.lt
    clear hHeld q1 q2 p1 p2 FL hr3 hs3 R3 hC3
    go_wp2_with fail
    refine (next_pos B _ _ hs4 (by omega)).mono ?_
    rintro e w5 ⟨r3, rfl, r30, r31, hs5, hc⟩
    replace x1 := hc.cellOf nQ x1
    replace x2 := hc.cellOf nQ x2
    have R5 := Lib.hid (R4.out.chg hc nR)
    have hC5 := Lib.hid (hC4.out.trans hc)
    clear hc hs4 R4 hC4
    by_cases h0 : r3 = 0
    · have t0 : (r3 == 0) = true := beq_iff_eq.2 h0
      clear h0
      go_wp2_with fail
      refine (next_pos B _ _ hs5 (by omega)).mono ?_
      rintro e w6 ⟨r4, rfl, r40, r41, hs6, hc⟩
      have R6 := Lib.hid (R5.out.chg hc nR)
      have hC6 := Lib.hid (hC5.out.trans hc)
      clear hc hs5 R5 hC5
      go_wp2_with fail
      refine (next_pos B _ _ hs6 (by omega)).mono ?_
      rintro e w7 ⟨r5, rfl, r50, r51, hs7, hc⟩
      have R7 := Lib.hid (R6.out.chg hc nR)
      have hC7 := Lib.hid (hC6.out.trans hc)
      clear hc hs6 R6 hC6
      go_wp2_with fail
      refine (next_pos B _ _ hs7 (by omega)).mono ?_
      rintro e w8 ⟨r6, rfl, r60, r61, hs8, hc⟩
      have R8 := Lib.hid (R7.out.chg hc nR)
      have hC8 := hC7.out.trans hc
      clear hc hs7 R7 hC7
      obtain ⟨⟨k0, k1, k2, k3⟩, l0, l1, l2, l3⟩ := R8.out.four
      go_wp2
      exact dl_done (n := w.heap.size + 1) (Box.set4 R8.out) (by repeat (first | with_reducible assumption | (with_reducible refine Src.setCell ?_ (by simp <;> omega) _))) (by repeat (first | with_reducible assumption | (with_reducible refine Chg.setNew ?_ (by simp <;> omega) _))) rfl
    · have t0 : (r3 == 0) = false := beq_eq_false_iff_ne.2 h0
      clear h0
      go_wp2_with fail
      refine (next_pos B _ _ hs5 (by omega)).mono ?_
      rintro e w6 ⟨r4, rfl, r40, r41, hs6, hc⟩
      have R6 := Lib.hid (R5.out.chg hc nR)
      have hC6 := Lib.hid (hC5.out.trans hc)
      clear hc hs5 R5 hC5
      go_wp2_with fail
      refine (next_pos B _ _ hs6 (by omega)).mono ?_
      rintro e w7 ⟨r5, rfl, r50, r51, hs7, hc⟩
      have R7 := Lib.hid (R6.out.chg hc nR)
      have hC7 := Lib.hid (hC6.out.trans hc)
      clear hc hs6 R6 hC6
      go_wp2_with fail
      refine (next_pos B _ _ hs7 (by omega)).mono ?_
      rintro e w8 ⟨r6, rfl, r60, r61, hs8, hc⟩
      have R8 := Lib.hid (R7.out.chg hc nR)
      have hC8 := hC7.out.trans hc
      clear hc hs7 R7 hC7
      obtain ⟨⟨k0, k1, k2, k3⟩, l0, l1, l2, l3⟩ := R8.out.four
      go_wp2
      exact dl_done (n := w.heap.size + 1) (Box.set4 R8.out) (by repeat (first | with_reducible assumption | (with_reducible refine Src.setCell ?_ (by simp <;> omega) _))) (by repeat (first | with_reducible assumption | (with_reducible refine Chg.setNew ?_ (by simp <;> omega) _))) rfl

end Go.Proofs.Ytccggjhmnbebbaa.Trk
