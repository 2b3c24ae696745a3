/- The rounding line of a mark (impl): its end, itself. -/
import Derived.Test.YthaioaaonnfabaaLen
import Derived.Test.YthaioaaonnfabaaCrs2
namespace Go.Proofs.Ythaioaaonnfabaa.Crs
open Go.ChangeShapes Go.WideShapes Go.ChangeAt Go.RowKit Go.PlainAid
open Go.Proofs.Ythaioaaonnfabaa.Num Go.Proofs.Ythaioaaonnfabaa.Kit Go.Proofs.Ythaioaaonnfabaa.Pts Go.Proofs.Ythaioaaonnfabaa.Seg Go.Proofs.Ythaioaaonnfabaa.Div Go.Proofs.Ythaioaaonnfabaa.Root Go.Proofs.Ythaioaaonnfabaa.Rt
set_option linter.unusedVariables false
set_option linter.unusedSimpArgs false

theorem flo_bd {a b : Int} (hb : 1 ≤ b) (M : Int) (h1 : -M ≤ a) (h2 : a ≤ M) : -M - 1 ≤ flo a b ∧ flo a b ≤ M := by
  obtain ⟨g1, g2⟩ := tdiv_bd hb M h1 h2
  unfold flo
  split <;> omega
theorem rt_up {x y : Int} (hx : -2000000 ≤ x ∧ x ≤ 2000000) (hy : -2000000 ≤ y ∧ y ≤ 2000000) : rt (x * x + y * y) ≤ 3000000 := by
  obtain ⟨b0, b1⟩ := sqs_bd hx hy
  have h := rt_sq b0
  by_cases hc : rt (x * x + y * y) ≤ 3000000
  · exact hc
  · have := sq_le (show (0 : Int) ≤ 3000000 by omega) (show 3000000 ≤ rt (x * x + y * y) by omega)
    simp only [Int.reduceMul] at this
    omega
theorem rt_one {x y : Int} (h : ¬ (x = 0 ∧ y = 0)) : 1 ≤ rt (x * x + y * y) := by
  refine rt_max (by omega) ?_
  have a := sq_nn x
  have b := sq_nn y
  have key : ∀ z : Int, z ≠ 0 → 1 ≤ z * z := fun z hz => by
    have h0 := sq_nn z
    have h1 : z * z ≠ 0 := fun e => by
      rcases Int.mul_eq_zero.1 e with e | e <;> exact hz e
    omega
  by_cases hx : x = 0
  · have := key y (fun e => h ⟨hx, e⟩); omega
  · have := key x hx; omega
theorem floorDiv_in (a b : Int) (w : World) (h1 : 1 ≤ b) (h2 : b ≤ 1000000000000000000) (h3 : -1000000000000000000 ≤ a) (h4 : a ≤ 1000000000000000000) :
    Calls Try.prog 64 #[.int .i64 a, .int .i64 b] w fun e w' => e = .returned (.tuple #[.int .i64 (flo a b), .int .i64 0]) ∧ Ext w w' := by
  refine (floorDiv_impl a b w).mono ?_
  rintro e w' ⟨rfl, rfl⟩
  exact ⟨ret_int2 (by unfold fdQ; rw [if_pos ⟨h1, h2, h3, h4⟩]) (by unfold fdC; rw [if_pos ⟨h1, h2, h3, h4⟩]), Ext.refl _⟩

/-- The width of a rounding line, its far end, and itself, for the vector of the leg. -/
def rdW (m : M5) : Int := if m.s = 1 then 10 * m.z else -(10 * m.z)
def rdX (m : M5) (wd dx dy : Int) : Int := m.x + flo (dy * wd) (rt (dx * dx + dy * dy))
def rdY (m : M5) (wd dx dy : Int) : Int := m.y - flo (dx * wd) (rt (dx * dx + dy * dy))
def rdL (m : M5) (dx dy : Int) : L4 := if m.s = 1 then ⟨m.x, m.y, rdX m (rdW m) dx dy, rdY m (rdW m) dx dy⟩ else ⟨rdX m (rdW m) dx dy, rdY m (rdW m) dx dy, m.x, m.y⟩
theorem mk_yes {m : M5} (h : mkB m = true) : (Co m.x ∧ Co m.y) ∧ (m.s = 1 ∨ m.s = 2) ∧ 1 ≤ m.z ∧ m.z ≤ 5000 := by
  have hp := ptB_yes (mk_pt h)
  unfold mkB at h
  simp only [Bool.and_eq_true] at h
  have a := of_inB h.2.2.1
  have b := of_inB h.2.2.2
  exact ⟨hp, by omega, b.1, b.2⟩

set_option maxHeartbeats 2000000 in
theorem endBeside_any (m : M5) (dx dy wd : Int) (w : World) (hx : Co m.x) (hy : Co m.y) (h1 : -2000000 ≤ dx ∧ dx ≤ 2000000) (h2 : -2000000 ≤ dy ∧ dy ≤ 2000000) (h3 : -50000 ≤ wd ∧ wd ≤ 50000) (hn : ¬ (dx = 0 ∧ dy = 0)) :
    Calls Try.prog 55 #[MV m, Pt dx dy, .int .i64 wd] w fun e w' => e = .returned (Pt (rdX m wd dx dy) (rdY m wd dx dy)) ∧ Ext w w' := by
  have n1 := rt_one hn
  have n2 := rt_up h1 h2
  have HX := Lib.hid (show m.x + flo (dy * wd) (rt (dx * dx + dy * dy)) = rdX m wd dx dy from rfl)
  have HY := Lib.hid (show m.y - flo (dx * wd) (rt (dx * dx + dy * dy)) = rdY m wd dx dy from rfl)
  obtain ⟨nm, x, y, s, z⟩ := m
  have PL := Lib.hid (fun w => length_any dx dy w h1 h2)
  obtain ⟨N, hN⟩ : ∃ N, N = rt (dx * dx + dy * dy) := ⟨_, rfl⟩
  rw [← hN] at n1 n2 PL HX HY
  clear hN hn
  obtain ⟨a1, a2⟩ := mul_bd 2000000 50000 h2 h3
  obtain ⟨b1, b2⟩ := mul_bd 2000000 50000 h1 h3
  simp only [Int.reduceMul, Int.reduceNeg] at a1 a2 b1 b2
  obtain ⟨c1, c2⟩ := flo_bd n1 100000000000 a1 a2
  obtain ⟨d1, d2⟩ := flo_bd n1 100000000000 b1 b2
  have FE := Lib.hid (fun w => floorDiv_in (dy * wd) N w (by omega) (by omega) (by omega) (by omega))
  have FS := Lib.hid (fun w => floorDiv_in (dx * wd) N w (by omega) (by omega) (by omega) (by omega))
  obtain ⟨E, hE⟩ : ∃ E, E = flo (dy * wd) N := ⟨_, rfl⟩
  obtain ⟨S, hS⟩ : ∃ S, S = flo (dx * wd) N := ⟨_, rfl⟩
  rw [← hE] at FE c1 c2 HX
  rw [← hS] at FS d1 d2 HY
  clear hE hS
  unfold Co at hx hy
  dsimp only at hx hy HX HY
  have T1 : IntKind.i64.wrap (x + E) = x + E := IntWalk.i64_in _ (by omega)
  have T2 : IntKind.i64.wrap (y - S) = y - S := IntWalk.i64_in _ (by omega)
  have T3 : IntKind.i64.wrap (dy * wd) = dy * wd := IntWalk.i64_in _ (by omega)
  have T4 : IntKind.i64.wrap (dx * wd) = dx * wd := IntWalk.i64_in _ (by omega)
  obtain ⟨W0, hW0⟩ : ∃ W0, W0 = ((w.alloc (.cells #[.string nm, .int .i64 x, .int .i64 y, .int .i64 s, .int .i64 z] 36)).alloc (.cells #[.int .i64 dx, .int .i64 dy] 25)).alloc (.cells #[.int .i64 0, .int .i64 0] 25) := ⟨_, rfl⟩
  have hX : Ext w W0 := hW0 ▸ (((Ext.refl w).alloc _).alloc _).alloc _
  have B0 : Box W0 w.heap.size [.string nm, .int .i64 x, .int .i64 y, .int .i64 s, .int .i64 z] := by rw [hW0]; exact ((Box.new (vs := [.string nm, .int .i64 x, .int .i64 y, .int .i64 s, .int .i64 z]) rfl).alloc _).alloc _
  have B1 : Box W0 (w.heap.size + 1) [.int .i64 dx, .int .i64 dy] := by rw [hW0]; exact (Box.new2 (by simp)).alloc _
  have B2 : Box W0 (w.heap.size + 1 + 1) [.int .i64 0, .int .i64 0] := by rw [hW0]; exact Box.new2 (by simp)
  replace B0 := Lib.hid B0
  replace B1 := Lib.hid B1
  replace B2 := Lib.hid B2
  go_enter Try.func55, Try.ntmps55
  go_wp2_with fail
  rw [← hW0]
  clear hW0
  refine (PL.out _).mono ?_
  rintro e w1 ⟨rfl, hx1⟩
  obtain ⟨⟨p0, p1⟩, _⟩ := (B1.out.ext hx1).two
  go_wp2_with fail
  refine (FE.out _).mono ?_
  rintro e w2 ⟨rfl, hx2⟩
  clear p0 p1
  obtain ⟨⟨p0, p1⟩, _⟩ := (B1.out.ext (hx1.trans hx2)).two
  go_wp2_with fail
  refine (FS.out _).mono ?_
  rintro e w3 ⟨rfl, hx3⟩
  have X3 := hx1.trans (hx2.trans hx3)
  have q1 := (B0.out.ext X3 1 _ rfl).1
  have q2 := (B0.out.ext X3 2 _ rfl).1
  obtain ⟨⟨r0, r1⟩, r2, r3⟩ := (B2.out.ext X3).two
  have BR := Lib.hid ((B2.out.ext X3).set2 (u := .int .i64 (x + E)) (v := .int .i64 (y - S)))
  clear p0 p1
  go_wp2
  obtain ⟨⟨g0, g1⟩, _⟩ := BR.out.two
  rw [← HX.out, ← HY.out]
  exact bodyPost_ret (v := Pt (x + E) (y - S)) (by simp [results, Try.results55, go_sem, g0, g1]) rfl ⟨rfl, ((hX.trans X3).setNew (by first | omega | (simp; omega) | simp) _).setNew (by first | omega | (simp; omega) | simp) _⟩

set_option maxHeartbeats 2000000 in
theorem roundingLine_any (m : M5) (dx dy : Int) (w : World) (hm : mkB m = true) (h1 : -2000000 ≤ dx ∧ dx ≤ 2000000) (h2 : -2000000 ≤ dy ∧ dy ≤ 2000000) (hn : ¬ (dx = 0 ∧ dy = 0)) :
    Calls Try.prog 35 #[MV m, Pt dx dy] w fun e w' => e = .returned (LV (rdL m dx dy)) ∧ Ext w w' := by
  obtain ⟨⟨mx, my⟩, hs, z1, z2⟩ := mk_yes hm
  clear hm
  rcases hs with hs | hs
  · have HL := Lib.hid (show rdL m dx dy = ⟨m.x, m.y, rdX m (10 * m.z) dx dy, rdY m (10 * m.z) dx dy⟩ by unfold rdL rdW; rw [if_pos hs, if_pos hs])
    have PE := Lib.hid (fun w => endBeside_any m dx dy (10 * m.z) w mx my h1 h2 (by omega) hn)
    rw [HL.out]
    obtain ⟨E, hE⟩ : ∃ E, E = rdX m (10 * m.z) dx dy := ⟨_, rfl⟩
    obtain ⟨S, hS⟩ : ∃ S, S = rdY m (10 * m.z) dx dy := ⟨_, rfl⟩
    rw [← hE, ← hS] at PE ⊢
    clear hE hS HL
    obtain ⟨nm, x, y, s, z⟩ := m
    obtain rfl : s = 1 := hs
    unfold Co at mx my
    dsimp only at mx my z1 z2 PE ⊢
    have T1 : IntKind.i64.wrap (10 * z) = 10 * z := IntWalk.i64_in _ (by omega)
    obtain ⟨W0, hW0⟩ : ∃ W0, W0 = (w.alloc (.cells #[.string nm, .int .i64 x, .int .i64 y, .int .i64 1, .int .i64 z] 36)).alloc (.cells #[.int .i64 dx, .int .i64 dy] 25) := ⟨_, rfl⟩
    have hX : Ext w W0 := hW0 ▸ (((Ext.refl w).alloc _).alloc _)
    have hs0 : W0.heap.size = w.heap.size + 1 + 1 := by rw [hW0]; simp
    have e00 : ∀ w', (Res W0 (w.heap.size + 1 + 1) 4) w' → w'.cell? ⟨w.heap.size, 0, none⟩ = some (.string nm) := fun w' h => h.1.cellOf (by rw [hW0]; exact ((Ext.refl _).alloc _).cellOf (boxed 0 rfl (by simp)))
    have e01 : ∀ w', (Res W0 (w.heap.size + 1 + 1) 4) w' → w'.cell? ⟨w.heap.size, 1, none⟩ = some (.int .i64 x) := fun w' h => h.1.cellOf (by rw [hW0]; exact ((Ext.refl _).alloc _).cellOf (boxed 1 rfl (by simp)))
    have e02 : ∀ w', (Res W0 (w.heap.size + 1 + 1) 4) w' → w'.cell? ⟨w.heap.size, 2, none⟩ = some (.int .i64 y) := fun w' h => h.1.cellOf (by rw [hW0]; exact ((Ext.refl _).alloc _).cellOf (boxed 2 rfl (by simp)))
    have e03 : ∀ w', (Res W0 (w.heap.size + 1 + 1) 4) w' → w'.cell? ⟨w.heap.size, 3, none⟩ = some (.int .i64 1) := fun w' h => h.1.cellOf (by rw [hW0]; exact ((Ext.refl _).alloc _).cellOf (boxed 3 rfl (by simp)))
    have e04 : ∀ w', (Res W0 (w.heap.size + 1 + 1) 4) w' → w'.cell? ⟨w.heap.size, 4, none⟩ = some (.int .i64 z) := fun w' h => h.1.cellOf (by rw [hW0]; exact ((Ext.refl _).alloc _).cellOf (boxed 4 rfl (by simp)))
    have e10 : ∀ w', (Res W0 (w.heap.size + 1 + 1) 4) w' → w'.cell? ⟨w.heap.size + 1, 0, none⟩ = some (.int .i64 dx) := fun w' h => h.1.cellOf (by rw [hW0]; exact boxed 0 rfl (by simp))
    have e11 : ∀ w', (Res W0 (w.heap.size + 1 + 1) 4) w' → w'.cell? ⟨w.heap.size + 1, 1, none⟩ = some (.int .i64 dy) := fun w' h => h.1.cellOf (by rw [hW0]; exact boxed 1 rfl (by simp))
    have S0 := Lib.hid (Res.new4 (W := W0) (x := .int .i64 0) (y := .int .i64 0) (z := .int .i64 0) (u := .int .i64 0) (t := 27))
    rw [hs0] at S0
    go_enter Try.func35, Try.ntmps35
    go_wp2_with fail
    rw [← hW0]
    have S1 := S0.out
    clear hW0 hs0 S0
    generalize W0.alloc (.cells #[.int .i64 0, .int .i64 0, .int .i64 0, .int .i64 0] 27) = V at *
    refine wp_region_held_drew (S := (Res W0 (w.heap.size + 1 + 1) 4)) (by kernel_rfl) (by (try dsimp only); first | go_keep | exact (Ext.refl _).drew | exact Res.new2.drew | exact Res.new4.drew | exact ResB.drew (by assumption) | exact ResC.drew (by assumption) | assumption | exact Ext.drew (by assumption) | exact Res.drew (by assumption)) (fun hHeld => ?_)
    (refine Ord.takeH 0 12 (v := ?_) rfl rfl (by kernel_rfl) (by kernel_rfl) (by kernel_rfl) (fun _ _ _ h => h) (by rfl) ?_ (by assumption) ?_; rotate_left; (intro w hSw; (try dsimp only at hSw); go_simp; (first | done | with_reducible rfl)); (try simp only [Act.put, List.setIfInBounds_toArray, List.set_cons_zero, List.set_cons_succ]))
    (refine Ord.takeH 1 13 (v := ?_) rfl rfl (by kernel_rfl) (by kernel_rfl) (by kernel_rfl) (fun _ _ _ h => h) (by rfl) ?_ (by assumption) ?_; rotate_left; (intro w hSw; (try dsimp only at hSw); go_simp; (first | done | with_reducible rfl)); (try simp only [Act.put, List.setIfInBounds_toArray, List.set_cons_zero, List.set_cons_succ]))
    (refine Ord.takeH 2 14 (v := ?_) rfl rfl (by kernel_rfl) (by kernel_rfl) (by kernel_rfl) (fun _ _ _ h => h) (by rfl) ?_ (by assumption) ?_; rotate_left; (intro w hSw; (try dsimp only at hSw); go_simp; (first | done | with_reducible rfl)); (try simp only [Act.put, List.setIfInBounds_toArray, List.set_cons_zero, List.set_cons_succ]))
    (refine Ord.takeH 3 15 (v := ?_) rfl rfl (by kernel_rfl) (by kernel_rfl) (by kernel_rfl) (fun _ _ _ h => h) (by rfl) ?_ (by assumption) ?_; rotate_left; (intro w hSw; (try dsimp only at hSw); go_simp; (first | done | with_reducible rfl)); (try simp only [Act.put, List.setIfInBounds_toArray, List.set_cons_zero, List.set_cons_succ]))
    (refine Ord.takeH 4 16 (v := ?_) rfl rfl (by kernel_rfl) (by kernel_rfl) (by kernel_rfl) (fun _ _ _ h => h) (by rfl) ?_ (by assumption) ?_; rotate_left; (intro w hSw; (try dsimp only at hSw); go_simp; (first | done | with_reducible rfl)); (try simp only [Act.put, List.setIfInBounds_toArray, List.set_cons_zero, List.set_cons_succ]))
    (refine wpAnyH_ready (rs := [5]) (by kernel_rfl) (by simp) ?_; refine AllReadyH.cons rfl (fun K hK => ?_) AllReadyH.nil; go_simp; (go_at_call 55; refine (PE.out _).mono ?_; rintro e w2 ⟨rfl, hy⟩); go_wp2_with fail; (refine hK.out _ _ (by first | assumption | exact Ext.trans (by assumption) hy | exact Res.ext (by assumption) hy | exact ResB.ext (by assumption) hy | exact ResC.ext (by assumption) hy | (go_split_ands; (repeat' apply And.intro) <;> exact Ext.cellOf hy (by assumption))) (fun hHeld => ?_)); clear hK K; (try simp only [Act.put, List.setIfInBounds_toArray, List.set_cons_zero, List.set_cons_succ]))
    (refine Ord.takeH 6 18 (v := ?_) rfl rfl (by kernel_rfl) (by kernel_rfl) (by kernel_rfl) (fun _ _ _ h => h) (by rfl) ?_ (by assumption) ?_; rotate_left; (intro w hSw; (try dsimp only at hSw); go_simp; (first | done | with_reducible rfl)); (try simp only [Act.put, List.setIfInBounds_toArray, List.set_cons_zero, List.set_cons_succ]))
    ((first | ((first | refine Exists.elim (Res.two hHeld) (fun rx rh => ?_) | refine Exists.elim (ResC.two hHeld) (fun rx rh => ?_) | refine Exists.elim (Res.two hHeld.1) (fun rx rh => ?_)); refine Exists.elim rh (fun ry rb => ?_); have r0 := rb.two.1.1; have r1 := rb.two.1.2; have r2 := rb.two.2.1; have r3 := rb.two.2.2; clear rh) | ((first | refine Exists.elim (Res.four hHeld) (fun rx rh => ?_) | refine Exists.elim (Res.four hHeld.1) (fun rx rh => ?_)); refine Exists.elim rh (fun ry rh => ?_); refine Exists.elim rh (fun rz rh => ?_); refine Exists.elim rh (fun ru rb => ?_); have r0 := rb.four.1.1; have r1 := rb.four.1.2.1; have r2 := rb.four.1.2.2.1; have r3 := rb.four.1.2.2.2; have r4 := rb.four.2.1; have r5 := rb.four.2.2.1; have r6 := rb.four.2.2.2.1; have r7 := rb.four.2.2.2.2; clear rh) | (refine Exists.elim (Res.three hHeld) (fun rx rh => ?_); refine Exists.elim rh (fun ry rh => ?_); refine Exists.elim rh (fun rz rb => ?_); have r0 := rb.three'.1.1; have r1 := rb.three'.1.2.1; have r2 := rb.three'.1.2.2; have r3 := rb.three'.2.1; have r4 := rb.three'.2.2.1; have r5 := rb.three'.2.2.2; clear rh; (try simp only [World.cell?_drew, World.frozen?_drew] at r0 r1 r2 r3 r4 r5)) | (refine Exists.elim (Res.five hHeld) (fun rx rh => ?_); refine Exists.elim rh (fun ry rh => ?_); refine Exists.elim rh (fun rz rh => ?_); refine Exists.elim rh (fun ru rh => ?_); refine Exists.elim rh (fun rt rb => ?_); have r0 := rb.five.1.1; have r1 := rb.five.1.2.1; have r2 := rb.five.1.2.2.1; have r3 := rb.five.1.2.2.2.1; have r4 := rb.five.1.2.2.2.2; have r5 := rb.five.2.1; have r6 := rb.five.2.2.1; have r7 := rb.five.2.2.2.1; have r8 := rb.five.2.2.2.2.1; have r9 := rb.five.2.2.2.2.2; clear rh; (try simp only [World.cell?_drew, World.frozen?_drew] at r0 r1 r2 r3 r4 r5 r6 r7 r8 r9)) | (refine Exists.elim (SD.one hHeld) (fun rx rh => ?_); have r0 := rh.1; have r1 := rh.2; clear rh)); refine wpAnyH_ready (rs := [7]) (by kernel_rfl) (by simp) ?_; refine AllReadyH.cons rfl (fun K hK => ?_) AllReadyH.nil; go_simp; (refine hK.out _ _ (by first | with_reducible exact SD.set hHeld _ | with_reducible exact Res.set (Res.set hHeld _ _) _ _ | with_reducible exact ResB.set (ResB.set hHeld _ _) _ _ | with_reducible exact ResC.set (ResC.set hHeld _ _) _ _ | with_reducible exact Res.set (Res.set (Res.set (Res.set hHeld _ _) _ _) _ _) _ _ | with_reducible exact Res.set (Res.set (Res.set hHeld _ _) _ _) _ _ | with_reducible exact Res.set (Res.set (Res.set (Res.set (Res.set hHeld _ _) _ _) _ _) _ _) _ _) (fun hHeld => ?_)); clear hK K; (try simp only [Act.put, List.setIfInBounds_toArray, List.set_cons_zero, List.set_cons_succ]))
    refine wpAnyH_done (by kernel_rfl) ?_ _
    go_wp2
    obtain ⟨⟨g0, g1, g2, g3⟩, _⟩ := (rb.set4 (a := .int .i64 x) (b := .int .i64 y) (c := .int .i64 E) (d := .int .i64 S)).four
    exact bodyPost_ret (v := Sg x y E S) (by simp [results, Try.results35, go_sem, g0, g1, g2, g3]) rfl ⟨rfl, hX.trans hHeld.1⟩
  · have HL := Lib.hid (show rdL m dx dy = ⟨rdX m (-(10 * m.z)) dx dy, rdY m (-(10 * m.z)) dx dy, m.x, m.y⟩ by unfold rdL rdW; rw [if_neg (by omega), if_neg (by omega)])
    have PE := Lib.hid (fun w => endBeside_any m dx dy (-(10 * m.z)) w mx my h1 h2 (by omega) hn)
    rw [HL.out]
    obtain ⟨E, hE⟩ : ∃ E, E = rdX m (-(10 * m.z)) dx dy := ⟨_, rfl⟩
    obtain ⟨S, hS⟩ : ∃ S, S = rdY m (-(10 * m.z)) dx dy := ⟨_, rfl⟩
    rw [← hE, ← hS] at PE ⊢
    clear hE hS HL
    obtain ⟨nm, x, y, s, z⟩ := m
    obtain rfl : s = 2 := hs
    unfold Co at mx my
    dsimp only at mx my z1 z2 PE ⊢
    have T1 : IntKind.i64.wrap (10 * z) = 10 * z := IntWalk.i64_in _ (by omega)
    have T2 : IntKind.i64.wrap (-(10 * z)) = -(10 * z) := IntWalk.i64_in _ (by omega)
    obtain ⟨W0, hW0⟩ : ∃ W0, W0 = (w.alloc (.cells #[.string nm, .int .i64 x, .int .i64 y, .int .i64 2, .int .i64 z] 36)).alloc (.cells #[.int .i64 dx, .int .i64 dy] 25) := ⟨_, rfl⟩
    have hX : Ext w W0 := hW0 ▸ (((Ext.refl w).alloc _).alloc _)
    have hs0 : W0.heap.size = w.heap.size + 1 + 1 := by rw [hW0]; simp
    have e00 : ∀ w', (Res W0 (w.heap.size + 1 + 1) 4) w' → w'.cell? ⟨w.heap.size, 0, none⟩ = some (.string nm) := fun w' h => h.1.cellOf (by rw [hW0]; exact ((Ext.refl _).alloc _).cellOf (boxed 0 rfl (by simp)))
    have e01 : ∀ w', (Res W0 (w.heap.size + 1 + 1) 4) w' → w'.cell? ⟨w.heap.size, 1, none⟩ = some (.int .i64 x) := fun w' h => h.1.cellOf (by rw [hW0]; exact ((Ext.refl _).alloc _).cellOf (boxed 1 rfl (by simp)))
    have e02 : ∀ w', (Res W0 (w.heap.size + 1 + 1) 4) w' → w'.cell? ⟨w.heap.size, 2, none⟩ = some (.int .i64 y) := fun w' h => h.1.cellOf (by rw [hW0]; exact ((Ext.refl _).alloc _).cellOf (boxed 2 rfl (by simp)))
    have e03 : ∀ w', (Res W0 (w.heap.size + 1 + 1) 4) w' → w'.cell? ⟨w.heap.size, 3, none⟩ = some (.int .i64 2) := fun w' h => h.1.cellOf (by rw [hW0]; exact ((Ext.refl _).alloc _).cellOf (boxed 3 rfl (by simp)))
    have e04 : ∀ w', (Res W0 (w.heap.size + 1 + 1) 4) w' → w'.cell? ⟨w.heap.size, 4, none⟩ = some (.int .i64 z) := fun w' h => h.1.cellOf (by rw [hW0]; exact ((Ext.refl _).alloc _).cellOf (boxed 4 rfl (by simp)))
    have e10 : ∀ w', (Res W0 (w.heap.size + 1 + 1) 4) w' → w'.cell? ⟨w.heap.size + 1, 0, none⟩ = some (.int .i64 dx) := fun w' h => h.1.cellOf (by rw [hW0]; exact boxed 0 rfl (by simp))
    have e11 : ∀ w', (Res W0 (w.heap.size + 1 + 1) 4) w' → w'.cell? ⟨w.heap.size + 1, 1, none⟩ = some (.int .i64 dy) := fun w' h => h.1.cellOf (by rw [hW0]; exact boxed 1 rfl (by simp))
    have S0 := Lib.hid (Res.new4 (W := W0) (x := .int .i64 0) (y := .int .i64 0) (z := .int .i64 0) (u := .int .i64 0) (t := 27))
    rw [hs0] at S0
    go_enter Try.func35, Try.ntmps35
    go_wp2_with fail
    rw [← hW0]
    have S1 := S0.out
    clear hW0 hs0 S0
    generalize W0.alloc (.cells #[.int .i64 0, .int .i64 0, .int .i64 0, .int .i64 0] 27) = V at *
    refine wp_region_held_drew (S := (Res W0 (w.heap.size + 1 + 1) 4)) (by kernel_rfl) (by (try dsimp only); first | go_keep | exact (Ext.refl _).drew | exact Res.new2.drew | exact Res.new4.drew | exact ResB.drew (by assumption) | exact ResC.drew (by assumption) | assumption | exact Ext.drew (by assumption) | exact Res.drew (by assumption)) (fun hHeld => ?_)
    (refine Ord.takeH 0 19 (v := ?_) rfl rfl (by kernel_rfl) (by kernel_rfl) (by kernel_rfl) (fun _ _ _ h => h) (by rfl) ?_ (by assumption) ?_; rotate_left; (intro w hSw; (try dsimp only at hSw); go_simp; (first | done | with_reducible rfl)); (try simp only [Act.put, List.setIfInBounds_toArray, List.set_cons_zero, List.set_cons_succ]))
    (refine Ord.takeH 1 20 (v := ?_) rfl rfl (by kernel_rfl) (by kernel_rfl) (by kernel_rfl) (fun _ _ _ h => h) (by rfl) ?_ (by assumption) ?_; rotate_left; (intro w hSw; (try dsimp only at hSw); go_simp; (first | done | with_reducible rfl)); (try simp only [Act.put, List.setIfInBounds_toArray, List.set_cons_zero, List.set_cons_succ]))
    (refine Ord.takeH 2 21 (v := ?_) rfl rfl (by kernel_rfl) (by kernel_rfl) (by kernel_rfl) (fun _ _ _ h => h) (by rfl) ?_ (by assumption) ?_; rotate_left; (intro w hSw; (try dsimp only at hSw); go_simp; (first | done | with_reducible rfl)); (try simp only [Act.put, List.setIfInBounds_toArray, List.set_cons_zero, List.set_cons_succ]))
    (refine Ord.takeH 3 22 (v := ?_) rfl rfl (by kernel_rfl) (by kernel_rfl) (by kernel_rfl) (fun _ _ _ h => h) (by rfl) ?_ (by assumption) ?_; rotate_left; (intro w hSw; (try dsimp only at hSw); go_simp; (first | done | with_reducible rfl)); (try simp only [Act.put, List.setIfInBounds_toArray, List.set_cons_zero, List.set_cons_succ]))
    (refine Ord.takeH 5 24 (v := ?_) rfl rfl (by kernel_rfl) (by kernel_rfl) (by kernel_rfl) (fun _ _ _ h => h) (by rfl) ?_ (by assumption) ?_; rotate_left; (intro w hSw; (try dsimp only at hSw); go_simp; (first | done | with_reducible rfl)); (try simp only [Act.put, List.setIfInBounds_toArray, List.set_cons_zero, List.set_cons_succ]))
    (refine Ord.takeH 6 25 (v := ?_) rfl rfl (by kernel_rfl) (by kernel_rfl) (by kernel_rfl) (fun _ _ _ h => h) (by rfl) ?_ (by assumption) ?_; rotate_left; (intro w hSw; (try dsimp only at hSw); go_simp; (first | done | with_reducible rfl)); (try simp only [Act.put, List.setIfInBounds_toArray, List.set_cons_zero, List.set_cons_succ]))
    (refine wpAnyH_ready (rs := [4]) (by kernel_rfl) (by simp) ?_; refine AllReadyH.cons rfl (fun K hK => ?_) AllReadyH.nil; go_simp; (go_at_call 55; refine (PE.out _).mono ?_; rintro e w2 ⟨rfl, hy⟩); go_wp2_with fail; (refine hK.out _ _ (by first | assumption | exact Ext.trans (by assumption) hy | exact Res.ext (by assumption) hy | exact ResB.ext (by assumption) hy | exact ResC.ext (by assumption) hy | (go_split_ands; (repeat' apply And.intro) <;> exact Ext.cellOf hy (by assumption))) (fun hHeld => ?_)); clear hK K; (try simp only [Act.put, List.setIfInBounds_toArray, List.set_cons_zero, List.set_cons_succ]))
    (refine Ord.takeH 7 26 (v := ?_) rfl rfl (by kernel_rfl) (by kernel_rfl) (by kernel_rfl) (fun _ _ _ h => h) (by rfl) ?_ (by assumption) ?_; rotate_left; (intro w hSw; (try dsimp only at hSw); go_simp; (first | done | with_reducible rfl)); (try simp only [Act.put, List.setIfInBounds_toArray, List.set_cons_zero, List.set_cons_succ]))
    ((first | ((first | refine Exists.elim (Res.two hHeld) (fun rx rh => ?_) | refine Exists.elim (ResC.two hHeld) (fun rx rh => ?_) | refine Exists.elim (Res.two hHeld.1) (fun rx rh => ?_)); refine Exists.elim rh (fun ry rb => ?_); have r0 := rb.two.1.1; have r1 := rb.two.1.2; have r2 := rb.two.2.1; have r3 := rb.two.2.2; clear rh) | ((first | refine Exists.elim (Res.four hHeld) (fun rx rh => ?_) | refine Exists.elim (Res.four hHeld.1) (fun rx rh => ?_)); refine Exists.elim rh (fun ry rh => ?_); refine Exists.elim rh (fun rz rh => ?_); refine Exists.elim rh (fun ru rb => ?_); have r0 := rb.four.1.1; have r1 := rb.four.1.2.1; have r2 := rb.four.1.2.2.1; have r3 := rb.four.1.2.2.2; have r4 := rb.four.2.1; have r5 := rb.four.2.2.1; have r6 := rb.four.2.2.2.1; have r7 := rb.four.2.2.2.2; clear rh) | (refine Exists.elim (Res.three hHeld) (fun rx rh => ?_); refine Exists.elim rh (fun ry rh => ?_); refine Exists.elim rh (fun rz rb => ?_); have r0 := rb.three'.1.1; have r1 := rb.three'.1.2.1; have r2 := rb.three'.1.2.2; have r3 := rb.three'.2.1; have r4 := rb.three'.2.2.1; have r5 := rb.three'.2.2.2; clear rh; (try simp only [World.cell?_drew, World.frozen?_drew] at r0 r1 r2 r3 r4 r5)) | (refine Exists.elim (Res.five hHeld) (fun rx rh => ?_); refine Exists.elim rh (fun ry rh => ?_); refine Exists.elim rh (fun rz rh => ?_); refine Exists.elim rh (fun ru rh => ?_); refine Exists.elim rh (fun rt rb => ?_); have r0 := rb.five.1.1; have r1 := rb.five.1.2.1; have r2 := rb.five.1.2.2.1; have r3 := rb.five.1.2.2.2.1; have r4 := rb.five.1.2.2.2.2; have r5 := rb.five.2.1; have r6 := rb.five.2.2.1; have r7 := rb.five.2.2.2.1; have r8 := rb.five.2.2.2.2.1; have r9 := rb.five.2.2.2.2.2; clear rh; (try simp only [World.cell?_drew, World.frozen?_drew] at r0 r1 r2 r3 r4 r5 r6 r7 r8 r9)) | (refine Exists.elim (SD.one hHeld) (fun rx rh => ?_); have r0 := rh.1; have r1 := rh.2; clear rh)); refine wpAnyH_ready (rs := [8]) (by kernel_rfl) (by simp) ?_; refine AllReadyH.cons rfl (fun K hK => ?_) AllReadyH.nil; go_simp; (refine hK.out _ _ (by first | with_reducible exact SD.set hHeld _ | with_reducible exact Res.set (Res.set hHeld _ _) _ _ | with_reducible exact ResB.set (ResB.set hHeld _ _) _ _ | with_reducible exact ResC.set (ResC.set hHeld _ _) _ _ | with_reducible exact Res.set (Res.set (Res.set (Res.set hHeld _ _) _ _) _ _) _ _ | with_reducible exact Res.set (Res.set (Res.set hHeld _ _) _ _) _ _ | with_reducible exact Res.set (Res.set (Res.set (Res.set (Res.set hHeld _ _) _ _) _ _) _ _) _ _) (fun hHeld => ?_)); clear hK K; (try simp only [Act.put, List.setIfInBounds_toArray, List.set_cons_zero, List.set_cons_succ]))
    refine wpAnyH_done (by kernel_rfl) ?_ _
    go_wp2
    obtain ⟨⟨g0, g1, g2, g3⟩, _⟩ := (rb.set4 (a := .int .i64 E) (b := .int .i64 S) (c := .int .i64 x) (d := .int .i64 y)).four
    exact bodyPost_ret (v := Sg E S x y) (by simp [results, Try.results35, go_sem, g0, g1, g2, g3]) rfl ⟨rfl, hX.trans hHeld.1⟩

end Go.Proofs.Ythaioaaonnfabaa.Crs
