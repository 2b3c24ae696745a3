import Derived.Test.YtmlojndkpnhalaaGreatMLen
import Derived.Test.YtmlojndkpnhalaaGreatRsz
import Derived.Deep.DeepCutAuto
namespace Go.Proofs.YtmlojndkpnhalaaGreat.Crs
open Go.ChangeShapes Go.WideShapes Go.ChangeAt Go.RowKit Go.PlainAid
open Go.Proofs.YtmlojndkpnhalaaGreat.Num Go.Proofs.YtmlojndkpnhalaaGreat.Kit Go.Proofs.YtmlojndkpnhalaaGreat.Pts Go.Proofs.YtmlojndkpnhalaaGreat.Seg Go.Proofs.YtmlojndkpnhalaaGreat.Div Go.Proofs.YtmlojndkpnhalaaGreat.Root Go.Proofs.YtmlojndkpnhalaaGreat.Rt
set_option linter.unusedVariables false
set_option linter.unusedSimpArgs false
theorem flo_bd {a b : Int} (hb : 1 ≤ b) (M : Int) (h1 : -M ≤ a) (h2 : a ≤ M) : -M - 1 ≤ flo a b ∧ flo a b ≤ M := by
  obtain ⟨g1, g2⟩ := tdiv_bd hb M h1 h2
  unfold flo
  split <;> omega
theorem rt_up {x y : Int} (hx : -2000000 ≤ x ∧ x ≤ 2000000) (hy : -2000000 ≤ y ∧ y ≤ 2000000) : rt (x * x + y * y) ≤ 3000000 := by
  obtain ⟨b0, b1⟩ := sqs_bd hx hy
  have h := rt_sq b0
  by_cases hc : rt (x * x + y * y) ≤ 3000000
  · exact hc
  · have := sq_le (show (0 : Int) ≤ 3000000 by omega) (show 3000000 ≤ rt (x * x + y * y) by omega)
    simp only [Int.reduceMul] at this
    omega
theorem rt_one {x y : Int} (h : ¬ (x = 0 ∧ y = 0)) : 1 ≤ rt (x * x + y * y) := by
  refine rt_max (by omega) ?_
  have a := sq_nn x
  have b := sq_nn y
  have key : ∀ z : Int, z ≠ 0 → 1 ≤ z * z := fun z hz => by
    have h0 := sq_nn z
    have h1 : z * z ≠ 0 := fun e => by
      rcases Int.mul_eq_zero.1 e with e | e <;> exact hz e
    omega
  by_cases hx : x = 0
  · have := key y (fun e => h ⟨hx, e⟩); omega
  · have := key x hx; omega
def rdW (m : M5) : Int := if m.s = 1 then 10 * m.z else -(10 * m.z)
def rdX (m : M5) (wd dx dy : Int) : Int := m.x + flo (dy * wd) (rt (dx * dx + dy * dy))
def rdY (m : M5) (wd dx dy : Int) : Int := m.y - flo (dx * wd) (rt (dx * dx + dy * dy))
def rdL (m : M5) (dx dy : Int) : L4 := if m.s = 1 then ⟨m.x, m.y, rdX m (rdW m) dx dy, rdY m (rdW m) dx dy⟩ else ⟨rdX m (rdW m) dx dy, rdY m (rdW m) dx dy, m.x, m.y⟩
set_option maxHeartbeats 2000000 in
theorem endBeside_any (m : M5) (dx dy wd : Int) (w : World) (hx : Co m.x) (hy : Co m.y) (h1 : -2000000 ≤ dx ∧ dx ≤ 2000000) (h2 : -2000000 ≤ dy ∧ dy ≤ 2000000) (h3 : -50000 ≤ wd ∧ wd ≤ 50000) (hn : ¬ (dx = 0 ∧ dy = 0)) :
    Calls Tryz.prog 242 #[MV m, Pt dx dy, .int .i64 wd] w fun e w' => e = .returned (Pt (rdX m wd dx dy) (rdY m wd dx dy)) ∧ Ext w w' := by
  have n1 := rt_one hn
  have n2 := rt_up h1 h2
  have HX := Lib.hid (show m.x + flo (dy * wd) (rt (dx * dx + dy * dy)) = rdX m wd dx dy from rfl)
  have HY := Lib.hid (show m.y - flo (dx * wd) (rt (dx * dx + dy * dy)) = rdY m wd dx dy from rfl)
  obtain ⟨nm, x, y, s, z⟩ := m
  have PL := Lib.hid (fun w => show Calls Tryz.prog 290 #[Pt dx dy, .int .i64 wd] w (fun e w' => e = .returned (Pt (flo (dx * wd) (rt (dx * dx + dy * dy))) (flo (dy * wd) (rt (dx * dx + dy * dy)))) ∧ Ext w w') from Rsz.resized_any dx dy wd w h1 h2 (by omega) hn)
  obtain ⟨N, hN⟩ : ∃ N, N = rt (dx * dx + dy * dy) := ⟨_, rfl⟩
  rw [← hN] at n1 n2 PL HX HY
  clear hN hn
  obtain ⟨a1, a2⟩ := mul_bd 2000000 50000 h2 h3
  obtain ⟨b1, b2⟩ := mul_bd 2000000 50000 h1 h3
  simp only [Int.reduceMul, Int.reduceNeg] at a1 a2 b1 b2
  obtain ⟨c1, c2⟩ := flo_bd n1 100000000000 a1 a2
  obtain ⟨d1, d2⟩ := flo_bd n1 100000000000 b1 b2
  obtain ⟨E, hE⟩ : ∃ E, E = flo (dy * wd) N := ⟨_, rfl⟩
  obtain ⟨S, hS⟩ : ∃ S, S = flo (dx * wd) N := ⟨_, rfl⟩
  rw [← hE] at PL c1 c2 HX
  rw [← hS] at PL d1 d2 HY
  clear hE hS
  unfold Co at hx hy
  dsimp only at hx hy HX HY
  have T1 : IntKind.i64.wrap (x + E) = x + E := IntWalk.i64_in _ (by omega)
  have T2 : IntKind.i64.wrap (y - S) = y - S := IntWalk.i64_in _ (by omega)
  have T3 : IntKind.i64.wrap (dy * wd) = dy * wd := IntWalk.i64_in _ (by omega)
  have T4 : IntKind.i64.wrap (dx * wd) = dx * wd := IntWalk.i64_in _ (by omega)
  obtain ⟨W0, hW0⟩ : ∃ W0, W0 = ((w.alloc (.cells #[.string nm, .int .i64 x, .int .i64 y, .int .i64 s, .int .i64 z] 145)).alloc (.cells #[.int .i64 dx, .int .i64 dy] 25)).alloc (.cells #[.int .i64 0, .int .i64 0] 25) := ⟨_, rfl⟩
  have hX : Ext w W0 := hW0 ▸ (((Ext.refl w).alloc _).alloc _).alloc _
  have B0 : Box W0 w.heap.size [.string nm, .int .i64 x, .int .i64 y, .int .i64 s, .int .i64 z] := by rw [hW0]; exact ((Box.new (vs := [.string nm, .int .i64 x, .int .i64 y, .int .i64 s, .int .i64 z]) rfl).alloc _).alloc _
  have B1 : Box W0 (w.heap.size + 1) [.int .i64 dx, .int .i64 dy] := by rw [hW0]; exact (Box.new2 (by simp)).alloc _
  have B2 : Box W0 (w.heap.size + 1 + 1) [.int .i64 0, .int .i64 0] := by rw [hW0]; exact Box.new2 (by simp)
  replace B0 := Lib.hid B0
  replace B1 := Lib.hid B1
  replace B2 := Lib.hid B2
  go_enter Tryz.func242, Tryz.ntmps242
  go_wp2_with fail
  rw [← hW0]
  clear hW0
  refine (PL.out _).mono ?_
  rintro e w1 ⟨rfl, hx1⟩
  obtain ⟨W1, hW1⟩ : ∃ W1, W1 = w1.alloc (.cells #[.int .i64 S, .int .i64 E] 25) := ⟨_, rfl⟩
  have X3 : Ext W0 W1 := hW1 ▸ hx1.alloc _
  have P1 := Lib.hid (show Box W1 w1.heap.size [.int .i64 S, .int .i64 E] from hW1 ▸ Box.new2 rfl)
  go_upto_region 2 with fail
  rw [← hW1]
  clear hW1
  have q1 := (B0.out.ext X3 1 _ rfl).1
  have q2 := (B0.out.ext X3 2 _ rfl).1
  obtain ⟨⟨p0, p1⟩, _⟩ := P1.out.two
  obtain ⟨⟨r0, r1⟩, r2, r3⟩ := (B2.out.ext X3).two
  have BR := Lib.hid ((B2.out.ext X3).set2 (u := .int .i64 (x + E)) (v := .int .i64 (y - S)))
  go_wp2
  obtain ⟨⟨g0, g1⟩, _⟩ := BR.out.two
  rw [← HX.out, ← HY.out]
  exact bodyPost_ret (v := Pt (x + E) (y - S)) (by simp [results, Tryz.results242, go_sem, g0, g1]) rfl ⟨rfl, ((hX.trans X3).setNew (by first | omega | (simp; omega) | simp) _).setNew (by first | omega | (simp; omega) | simp) _⟩
set_option maxHeartbeats 2000000 in
theorem roundingLine_any (m : M5) (dx dy : Int) (w : World) (hm : mkB m = true) (h1 : -2000000 ≤ dx ∧ dx ≤ 2000000) (h2 : -2000000 ≤ dy ∧ dy ≤ 2000000) (hn : ¬ (dx = 0 ∧ dy = 0)) :
    Calls Tryz.prog 193 #[MV m, Pt dx dy] w fun e w' => e = .returned (LV (rdL m dx dy)) ∧ Ext w w' := by
  obtain ⟨⟨mx, my⟩, hs, z1, z2⟩ := mk_yes hm
  clear hm
  rcases hs with hs | hs
  · have HL := Lib.hid (show rdL m dx dy = ⟨m.x, m.y, rdX m (10 * m.z) dx dy, rdY m (10 * m.z) dx dy⟩ by unfold rdL rdW; rw [if_pos hs, if_pos hs])
    have PE := Lib.hid (fun w => endBeside_any m dx dy (10 * m.z) w mx my h1 h2 (by omega) hn)
    rw [HL.out]
    obtain ⟨E, hE⟩ : ∃ E, E = rdX m (10 * m.z) dx dy := ⟨_, rfl⟩
    obtain ⟨S, hS⟩ : ∃ S, S = rdY m (10 * m.z) dx dy := ⟨_, rfl⟩
    rw [← hE, ← hS] at PE ⊢
    clear hE hS HL
    obtain ⟨nm, x, y, s, z⟩ := m
    obtain rfl : s = 1 := hs
    unfold Co at mx my
    dsimp only at mx my z1 z2 PE ⊢
    have T1 : IntKind.i64.wrap (10 * z) = 10 * z := IntWalk.i64_in _ (by omega)
    obtain ⟨W0, hW0⟩ : ∃ W0, W0 = (w.alloc (.cells #[.string nm, .int .i64 x, .int .i64 y, .int .i64 1, .int .i64 z] 145)).alloc (.cells #[.int .i64 dx, .int .i64 dy] 25) := ⟨_, rfl⟩
    have hX : Ext w W0 := hW0 ▸ (((Ext.refl w).alloc _).alloc _)
    have hs0 : W0.heap.size = w.heap.size + 1 + 1 := by rw [hW0]; simp
    have e00 : ∀ w', (Res W0 (w.heap.size + 1 + 1) 4) w' → w'.cell? ⟨w.heap.size, 0, none⟩ = some (.string nm) := fun w' h => h.1.cellOf (by rw [hW0]; exact ((Ext.refl _).alloc _).cellOf (boxed 0 rfl (by simp)))
    have e01 : ∀ w', (Res W0 (w.heap.size + 1 + 1) 4) w' → w'.cell? ⟨w.heap.size, 1, none⟩ = some (.int .i64 x) := fun w' h => h.1.cellOf (by rw [hW0]; exact ((Ext.refl _).alloc _).cellOf (boxed 1 rfl (by simp)))
    have e02 : ∀ w', (Res W0 (w.heap.size + 1 + 1) 4) w' → w'.cell? ⟨w.heap.size, 2, none⟩ = some (.int .i64 y) := fun w' h => h.1.cellOf (by rw [hW0]; exact ((Ext.refl _).alloc _).cellOf (boxed 2 rfl (by simp)))
    have e03 : ∀ w', (Res W0 (w.heap.size + 1 + 1) 4) w' → w'.cell? ⟨w.heap.size, 3, none⟩ = some (.int .i64 1) := fun w' h => h.1.cellOf (by rw [hW0]; exact ((Ext.refl _).alloc _).cellOf (boxed 3 rfl (by simp)))
    have e04 : ∀ w', (Res W0 (w.heap.size + 1 + 1) 4) w' → w'.cell? ⟨w.heap.size, 4, none⟩ = some (.int .i64 z) := fun w' h => h.1.cellOf (by rw [hW0]; exact ((Ext.refl _).alloc _).cellOf (boxed 4 rfl (by simp)))
    have e10 : ∀ w', (Res W0 (w.heap.size + 1 + 1) 4) w' → w'.cell? ⟨w.heap.size + 1, 0, none⟩ = some (.int .i64 dx) := fun w' h => h.1.cellOf (by rw [hW0]; exact boxed 0 rfl (by simp))
    have e11 : ∀ w', (Res W0 (w.heap.size + 1 + 1) 4) w' → w'.cell? ⟨w.heap.size + 1, 1, none⟩ = some (.int .i64 dy) := fun w' h => h.1.cellOf (by rw [hW0]; exact boxed 1 rfl (by simp))
    have S0 := Lib.hid (Res.new4 (W := W0) (x := .int .i64 0) (y := .int .i64 0) (z := .int .i64 0) (u := .int .i64 0) (t := 27))
    rw [hs0] at S0
    go_enter Tryz.func193, Tryz.ntmps193
    go_wp2_with fail
    rw [← hW0]
    have S1 := S0.out
    clear hW0 hs0 S0
    generalize W0.alloc (.cells #[.int .i64 0, .int .i64 0, .int .i64 0, .int .i64 0] 27) = V at *
    refine wp_region_held_drew (S := (Res W0 (w.heap.size + 1 + 1) 4)) (by kernel_rfl) (by (try dsimp only); first | go_keep | exact (Ext.refl _).drew | exact Res.new2.drew | exact Res.new4.drew | exact ResB.drew (by assumption) | exact ResC.drew (by assumption) | assumption | exact Ext.drew (by assumption) | exact Res.drew (by assumption)) (fun hHeld => ?_)
    refine Ord.K 0 12 ?_
    refine Ord.K 1 13 ?_
    refine Ord.K 2 14 ?_
    refine Ord.K 3 15 ?_
    refine Ord.K 4 16 ?_
    (refine wpAnyH_ready (rs := [5]) (by kernel_rfl) (by simp) ?_; refine AllReadyH.cons rfl (fun K hK => ?_) AllReadyH.nil; go_simp; (go_at_call 242; refine (PE.out _).mono ?_; rintro e w2 ⟨rfl, hy⟩); go_wp2_with fail; (refine hK.out _ _ (by first | assumption | exact Ext.trans (by assumption) hy | exact Res.ext (by assumption) hy | exact ResB.ext (by assumption) hy | exact ResC.ext (by assumption) hy | (go_split_ands; (repeat' apply And.intro) <;> exact Ext.cellOf hy (by assumption))) (fun hHeld => ?_)); clear hK K; (try simp only [Act.put, Ord.a, Ord.b, Ord.c]))
    refine Ord.K 6 18 ?_
    (((first | refine Exists.elim (Res.four hHeld) (fun rx rh => ?_) | refine Exists.elim (Res.four hHeld.1) (fun rx rh => ?_)); refine Exists.elim rh (fun ry rh => ?_); refine Exists.elim rh (fun rz rh => ?_); refine Exists.elim rh (fun ru rb => ?_); have r0 := rb.four.1.1; have r1 := rb.four.1.2.1; have r2 := rb.four.1.2.2.1; have r3 := rb.four.1.2.2.2; have r4 := rb.four.2.1; have r5 := rb.four.2.2.1; have r6 := rb.four.2.2.2.1; have r7 := rb.four.2.2.2.2; clear rh); refine wpAnyH_ready (rs := [7]) (by kernel_rfl) (by simp) ?_; refine AllReadyH.cons rfl (fun K hK => ?_) AllReadyH.nil; go_simp; (refine hK.out _ _ (by with_reducible exact Res.set (Res.set (Res.set (Res.set hHeld _ _) _ _) _ _) _ _) (fun hHeld => ?_)); clear hK K; (try simp only [Act.put, Ord.a, Ord.b, Ord.c]))
    refine wpAnyH_done (by kernel_rfl) ?_ _
    go_wp2
    obtain ⟨⟨g0, g1, g2, g3⟩, _⟩ := (rb.set4 (a := .int .i64 x) (b := .int .i64 y) (c := .int .i64 E) (d := .int .i64 S)).four
    exact bodyPost_ret (v := Sg x y E S) (by simp [results, Tryz.results193, go_sem, g0, g1, g2, g3]) rfl ⟨rfl, hX.trans hHeld.1⟩
  · have HL := Lib.hid (show rdL m dx dy = ⟨rdX m (-(10 * m.z)) dx dy, rdY m (-(10 * m.z)) dx dy, m.x, m.y⟩ by unfold rdL rdW; rw [if_neg (by omega), if_neg (by omega)])
    have PE := Lib.hid (fun w => endBeside_any m dx dy (-(10 * m.z)) w mx my h1 h2 (by omega) hn)
    rw [HL.out]
    obtain ⟨E, hE⟩ : ∃ E, E = rdX m (-(10 * m.z)) dx dy := ⟨_, rfl⟩
    obtain ⟨S, hS⟩ : ∃ S, S = rdY m (-(10 * m.z)) dx dy := ⟨_, rfl⟩
    rw [← hE, ← hS] at PE ⊢
    clear hE hS HL
    obtain ⟨nm, x, y, s, z⟩ := m
    obtain rfl : s = 2 := hs
    unfold Co at mx my
    dsimp only at mx my z1 z2 PE ⊢
    have T1 : IntKind.i64.wrap (10 * z) = 10 * z := IntWalk.i64_in _ (by omega)
    have T2 : IntKind.i64.wrap (-(10 * z)) = -(10 * z) := IntWalk.i64_in _ (by omega)
    obtain ⟨W0, hW0⟩ : ∃ W0, W0 = (w.alloc (.cells #[.string nm, .int .i64 x, .int .i64 y, .int .i64 2, .int .i64 z] 145)).alloc (.cells #[.int .i64 dx, .int .i64 dy] 25) := ⟨_, rfl⟩
    have hX : Ext w W0 := hW0 ▸ (((Ext.refl w).alloc _).alloc _)
    have hs0 : W0.heap.size = w.heap.size + 1 + 1 := by rw [hW0]; simp
    have e00 : ∀ w', (Res W0 (w.heap.size + 1 + 1) 4) w' → w'.cell? ⟨w.heap.size, 0, none⟩ = some (.string nm) := fun w' h => h.1.cellOf (by rw [hW0]; exact ((Ext.refl _).alloc _).cellOf (boxed 0 rfl (by simp)))
    have e01 : ∀ w', (Res W0 (w.heap.size + 1 + 1) 4) w' → w'.cell? ⟨w.heap.size, 1, none⟩ = some (.int .i64 x) := fun w' h => h.1.cellOf (by rw [hW0]; exact ((Ext.refl _).alloc _).cellOf (boxed 1 rfl (by simp)))
    have e02 : ∀ w', (Res W0 (w.heap.size + 1 + 1) 4) w' → w'.cell? ⟨w.heap.size, 2, none⟩ = some (.int .i64 y) := fun w' h => h.1.cellOf (by rw [hW0]; exact ((Ext.refl _).alloc _).cellOf (boxed 2 rfl (by simp)))
    have e03 : ∀ w', (Res W0 (w.heap.size + 1 + 1) 4) w' → w'.cell? ⟨w.heap.size, 3, none⟩ = some (.int .i64 2) := fun w' h => h.1.cellOf (by rw [hW0]; exact ((Ext.refl _).alloc _).cellOf (boxed 3 rfl (by simp)))
    have e04 : ∀ w', (Res W0 (w.heap.size + 1 + 1) 4) w' → w'.cell? ⟨w.heap.size, 4, none⟩ = some (.int .i64 z) := fun w' h => h.1.cellOf (by rw [hW0]; exact ((Ext.refl _).alloc _).cellOf (boxed 4 rfl (by simp)))
    have e10 : ∀ w', (Res W0 (w.heap.size + 1 + 1) 4) w' → w'.cell? ⟨w.heap.size + 1, 0, none⟩ = some (.int .i64 dx) := fun w' h => h.1.cellOf (by rw [hW0]; exact boxed 0 rfl (by simp))
    have e11 : ∀ w', (Res W0 (w.heap.size + 1 + 1) 4) w' → w'.cell? ⟨w.heap.size + 1, 1, none⟩ = some (.int .i64 dy) := fun w' h => h.1.cellOf (by rw [hW0]; exact boxed 1 rfl (by simp))
    have S0 := Lib.hid (Res.new4 (W := W0) (x := .int .i64 0) (y := .int .i64 0) (z := .int .i64 0) (u := .int .i64 0) (t := 27))
    rw [hs0] at S0
    go_enter Tryz.func193, Tryz.ntmps193
    go_wp2_with fail
    rw [← hW0]
    have S1 := S0.out
    clear hW0 hs0 S0
    generalize W0.alloc (.cells #[.int .i64 0, .int .i64 0, .int .i64 0, .int .i64 0] 27) = V at *
    refine wp_region_held_drew (S := (Res W0 (w.heap.size + 1 + 1) 4)) (by kernel_rfl) (by (try dsimp only); first | go_keep | exact (Ext.refl _).drew | exact Res.new2.drew | exact Res.new4.drew | exact ResB.drew (by assumption) | exact ResC.drew (by assumption) | assumption | exact Ext.drew (by assumption) | exact Res.drew (by assumption)) (fun hHeld => ?_)
    refine Ord.K 0 19 ?_
    refine Ord.K 1 20 ?_
    refine Ord.K 2 21 ?_
    refine Ord.K 3 22 ?_
    refine Ord.K 5 24 ?_
    refine Ord.K 6 25 ?_
    (refine wpAnyH_ready (rs := [4]) (by kernel_rfl) (by simp) ?_; refine AllReadyH.cons rfl (fun K hK => ?_) AllReadyH.nil; go_simp; (go_at_call 242; refine (PE.out _).mono ?_; rintro e w2 ⟨rfl, hy⟩); go_wp2_with fail; (refine hK.out _ _ (by first | assumption | exact Ext.trans (by assumption) hy | exact Res.ext (by assumption) hy | exact ResB.ext (by assumption) hy | exact ResC.ext (by assumption) hy | (go_split_ands; (repeat' apply And.intro) <;> exact Ext.cellOf hy (by assumption))) (fun hHeld => ?_)); clear hK K; (try simp only [Act.put, Ord.a, Ord.b, Ord.c]))
    refine Ord.K 7 26 ?_
    (((first | refine Exists.elim (Res.four hHeld) (fun rx rh => ?_) | refine Exists.elim (Res.four hHeld.1) (fun rx rh => ?_)); refine Exists.elim rh (fun ry rh => ?_); refine Exists.elim rh (fun rz rh => ?_); refine Exists.elim rh (fun ru rb => ?_); have r0 := rb.four.1.1; have r1 := rb.four.1.2.1; have r2 := rb.four.1.2.2.1; have r3 := rb.four.1.2.2.2; have r4 := rb.four.2.1; have r5 := rb.four.2.2.1; have r6 := rb.four.2.2.2.1; have r7 := rb.four.2.2.2.2; clear rh); refine wpAnyH_ready (rs := [8]) (by kernel_rfl) (by simp) ?_; refine AllReadyH.cons rfl (fun K hK => ?_) AllReadyH.nil; go_simp; (refine hK.out _ _ (by with_reducible exact Res.set (Res.set (Res.set (Res.set hHeld _ _) _ _) _ _) _ _) (fun hHeld => ?_)); clear hK K; (try simp only [Act.put, Ord.a, Ord.b, Ord.c]))
    refine wpAnyH_done (by kernel_rfl) ?_ _
    go_wp2
    obtain ⟨⟨g0, g1, g2, g3⟩, _⟩ := (rb.set4 (a := .int .i64 E) (b := .int .i64 S) (c := .int .i64 x) (d := .int .i64 y)).four
    exact bodyPost_ret (v := Sg E S x y) (by simp [results, Tryz.results193, go_sem, g0, g1, g2, g3]) rfl ⟨rfl, hX.trans hHeld.1⟩
end Go.Proofs.YtmlojndkpnhalaaGreat.Crs
namespace Go.Proofs.YtmlojndkpnhalaaGreat.Crs
open Go.ChangeShapes Go.WideShapes Go.ChangeAt Go.RowKit Go.PlainAid
open Go.Proofs.YtmlojndkpnhalaaGreat.Num Go.Proofs.YtmlojndkpnhalaaGreat.Kit Go.Proofs.YtmlojndkpnhalaaGreat.Pts Go.Proofs.YtmlojndkpnhalaaGreat.Seg Go.Proofs.YtmlojndkpnhalaaGreat.Div Go.Proofs.YtmlojndkpnhalaaGreat.Root Go.Proofs.YtmlojndkpnhalaaGreat.Rt
set_option linter.unusedVariables false
set_option linter.unusedSimpArgs false
theorem cr_lo {l k : L4} {ms : List M5} (h : crB l k ms = true) {i : Nat} (hi : i < ms.length + 1) : loB l k ms i = true := by
  unfold crB at h
  simp only [Bool.and_eq_true, decide_eq_true_eq] at h
  exact lg_yes h.2.2.2.2 i hi
theorem cr_vec {l k : L4} {ms : List M5} (h : crB l k ms = true) {i : Nat} (hi : i < ms.length + 1) :
    (-2000000 ≤ (stP l k ms (i + 1)).x - (stP l k ms i).x ∧ (stP l k ms (i + 1)).x - (stP l k ms i).x ≤ 2000000) ∧ (-2000000 ≤ (stP l k ms (i + 1)).y - (stP l k ms i).y ∧ (stP l k ms (i + 1)).y - (stP l k ms i).y ≤ 2000000) ∧ ¬ ((stP l k ms (i + 1)).x - (stP l k ms i).x = 0 ∧ (stP l k ms (i + 1)).y - (stP l k ms i).y = 0) := by
  obtain ⟨⟨a, b, c, d⟩, e⟩ := sgB_yes (cr_lo h hi)
  unfold Co at a b c d
  exact ⟨by omega, by omega, fun q => e (by omega)⟩
def rlL (l k : L4) (ms : List M5) (i : Nat) : L4 := rdL (mk ms i) ((stP l k ms (i + 1)).x - (stP l k ms i).x) ((stP l k ms (i + 1)).y - (stP l k ms i).y)
def rlB (l k : L4) (ms : List M5) (i : Nat) : Bool := sgB (rlL l k ms i).a (rlL l k ms i).b (rlL l k ms i).c (rlL l k ms i).d
abbrev cellsL (l : L4) : List Value := [.int .i64 l.a, .int .i64 l.b, .int .i64 l.c, .int .i64 l.d]
def rlC (l k : L4) (ms : List M5) (n : Nat) : List Value := (List.range n).flatMap fun i => cellsL (rlL l k ms i)
theorem rlC_succ (l k : L4) (ms : List M5) (n : Nat) : rlC l k ms (n + 1) = rlC l k ms n ++ cellsL (rlL l k ms n) := by
  simp [rlC, List.range_succ]
theorem rlC_len (l k : L4) (ms : List M5) : ∀ n, (rlC l k ms n).length = n * 4
  | 0 => rfl
  | n + 1 => by rw [rlC_succ, List.length_append, rlC_len l k ms n]; simp; omega
theorem lineInfo : (Tryz.prog.info? 27).map (fun i => (i.zero, i.size, i.bytes)) = some (some (Sg 0 0 0 0), 4, 32) := by kernel_rfl
theorem row_some {w : World} {base size n : Nat} {e : TypeId} {v : Value} {xs : List Value} (h : w.ownsRow base e size v n xs) (h0 : 0 < n) :
    ∃ g cap, v = .slice (some ⟨g, 0, none⟩) n cap ∧ n ≤ cap ∧ base ≤ g ∧ ∀ j, j < n * size → w.cell? ⟨g, j, none⟩ = xs[j]? := by
  rcases row_cases h with ⟨_, q⟩ | q
  · exact absurd q (by omega)
  · exact q
theorem cell_ext {w w' : World} {a : Addr} {v : Value} (h : w.cell? a = some v) (k : Ext w w') : w'.cell? a = some v := k.cellOf h
def LgAt (g o n : Nat) (p q : P2) (m : M5) (w' : World) : Prop :=
  (w'.cell? ⟨g, o, none⟩ = some (.int .i64 p.x) ∧ w'.cell? ⟨g, o + 1, none⟩ = some (.int .i64 p.y) ∧ w'.cell? ⟨g, o + 2, none⟩ = some (.int .i64 q.x) ∧ w'.cell? ⟨g, o + 3, none⟩ = some (.int .i64 q.y)) ∧
  w'.cell? ⟨n, 0, none⟩ = some (.string m.n) ∧ w'.cell? ⟨n, 1, none⟩ = some (.int .i64 m.x) ∧ w'.cell? ⟨n, 2, none⟩ = some (.int .i64 m.y) ∧ w'.cell? ⟨n, 3, none⟩ = some (.int .i64 m.s) ∧ w'.cell? ⟨n, 4, none⟩ = some (.int .i64 m.z)
theorem LgAt.ext {g o n : Nat} {p q : P2} {m : M5} {a b : World} (h : LgAt g o n p q m a) (k : Ext a b) : LgAt g o n p q m b :=
  ⟨⟨k.cellOf h.1.1, k.cellOf h.1.2.1, k.cellOf h.1.2.2.1, k.cellOf h.1.2.2.2⟩, k.cellOf h.2.1, k.cellOf h.2.2.1, k.cellOf h.2.2.2.1, k.cellOf h.2.2.2.2.1, k.cellOf h.2.2.2.2.2⟩
theorem LgAt.grown {g o n : Nat} {p q : P2} {m : M5} {a b : World} {row : Option Nat} (h : LgAt g o n p q m a) (k : a.grownBy b row) (hg : row ≠ some g) (hn : row ≠ some n) : LgAt g o n p q m b :=
  ⟨⟨World.grownBy.cell k h.1.1 (fun e => hg e.symm), World.grownBy.cell k h.1.2.1 (fun e => hg e.symm), World.grownBy.cell k h.1.2.2.1 (fun e => hg e.symm), World.grownBy.cell k h.1.2.2.2 (fun e => hg e.symm)⟩,
   World.grownBy.cell k h.2.1 (fun e => hn e.symm), World.grownBy.cell k h.2.2.1 (fun e => hn e.symm), World.grownBy.cell k h.2.2.2.1 (fun e => hn e.symm), World.grownBy.cell k h.2.2.2.2.1 (fun e => hn e.symm), World.grownBy.cell k h.2.2.2.2.2 (fun e => hn e.symm)⟩
def RelRL (wx : World) (b : Nat) (l k : L4) (ms : List M5) (o i : Value) (wr : World) : Prop :=
  ∃ j : Nat, i = .int .i64 j ∧ j ≤ ms.length ∧ wr.ownsRow b 27 4 o j (rlC l k ms j) ∧ Ext wx wr
set_option maxRecDepth 100000 in
set_option maxHeartbeats 4000000 in
theorem roundingLines_any (l k : L4) (a : Option Addr) (cap : Nat) (ms : List M5) (w : World) (hf : Mks w a ms) (hq : crB l k ms = true) :
    Calls Tryz.prog 119 #[CV l k (.slice a ms.length cap)] w fun e w' => ∃ v, e = .returned v ∧ w'.ownsRow w.heap.size 27 4 v ms.length (rlC l k ms ms.length) ∧ Ext w w' := by
  obtain ⟨hv, hv2⟩ := cr_lines hq
  have h8 := cr_eight hq
  have HM := Lib.hid (fun (i : Nat) (hi : i < ms.length) => cr_mk hq hi)
  have HP := Lib.hid (fun i => st_co (cr_pv hq) i)
  have HV := Lib.hid (fun (i : Nat) (hi : i < ms.length) => cr_vec (i := i) hq (by omega))
  obtain ⟨W0, hW0⟩ : ∃ W0, W0 = w.alloc (.cells (cellsC l k (.slice a ms.length cap)).toArray 30) := ⟨_, rfl⟩
  have HW := Lib.hid (show Ext w W0 from hW0 ▸ (Ext.refl w).alloc _)
  have BB := Lib.hid (show Box W0 w.heap.size (cellsC l k (.slice a ms.length cap)) from hW0 ▸ Box.new rfl)
  have HF := Lib.hid (hf.ext HW.out)
  clear hf
  go_enter Tryz.func119, Tryz.ntmps119
  go_wp2_with fail
  rw [← hW0]
  clear hW0
  refine (legs_any _ _ _ _ _ _ HF.out h8 hv hv2).mono ?_
  rintro e w1 ⟨v, rfl, hO, hx⟩
  obtain ⟨g, cp, rfl, hcp, hg0, hc⟩ := row_some hO (by omega)
  have HC := Lib.hid hc
  have X1 := Lib.hid (HW.out.trans hx)
  replace HF := Lib.hid (HF.out.ext hx)
  obtain ⟨⟨p0, p1, p2, p3, p4, p5, p6, p7, p8⟩, _⟩ := Box.nine (BB.out.ext hx)
  clear hx hO hc
  obtain ⟨i0, hin, hz0, hz1, hz2⟩ := info_parts lineInfo
  go_wp2
  go_loopw [4, 12] (fun o i wr => RelRL w1 w1.heap.size l k ms o i wr) (fun o i _ => ms.length - (intOf i).toNat)
  case atStart => exact ⟨0, rfl, Nat.zero_le _, World.ownsRow_nil _ _ _ _, Ext.refl _⟩
  case round =>
    clear p0 p1 p2 p3 p4 p5 p6 p7 p8
    obtain ⟨j, rfl, hj, hO, hx⟩ := hrel
    have HO := Lib.hid hO
    have HX := Lib.hid hx
    clear hO hx
    by_cases hj1 : j < ms.length
    · obtain ⟨b, off, rfl, hb⟩ := HF.out.row (by omega)
      obtain ⟨m0, m1, m2, m3, m4⟩ := (hb j hj1).ext HX.out
      have j0 : (0 : Int) ≤ (j : Int) := by omega
      have j1 : (j : Int) < (ms.length : Int) := by omega
      have j2 : (j : Int) < (ms.length : Int) + 1 := by omega
      have j3 : (j : Int) < ((ms.length + 1 : Nat) : Int) := by omega
      have j4 : j < ms.length + 1 := by omega
      have T7 : IntKind.i64.wrap ((j : Int) + 1) = (j : Int) + 1 := IntWalk.i64_in _ (by omega)
      obtain ⟨q0, q1, q2, q3⟩ := lgC_get l k ms (ms.length + 1) j (by omega)
      have c0 : wr.cell? ⟨g, j * 4, none⟩ = some (.int .i64 (stP l k ms j).x) := HX.out.cellOf (by rw [HC.out _ (by omega)]; exact q0)
      have c1 : wr.cell? ⟨g, j * 4 + 1, none⟩ = some (.int .i64 (stP l k ms j).y) := HX.out.cellOf (by rw [HC.out _ (by omega)]; exact q1)
      have c2 : wr.cell? ⟨g, j * 4 + 2, none⟩ = some (.int .i64 (stP l k ms (j + 1)).x) := HX.out.cellOf (by rw [HC.out _ (by omega)]; exact q2)
      have c3 : wr.cell? ⟨g, j * 4 + 3, none⟩ = some (.int .i64 (stP l k ms (j + 1)).y) := HX.out.cellOf (by rw [HC.out _ (by omega)]; exact q3)
      have gb : g < w1.heap.size := World.block_lt_of_cell? w1 _ ((HC.out (j * 4) (by omega)).trans q0)
      clear q0 q1 q2 q3 hb
      obtain ⟨a0, a1⟩ := HP.out j
      obtain ⟨b0, b1⟩ := HP.out (j + 1)
      obtain ⟨e0, e1, e2⟩ := HV.out j hj1
      have PV := Lib.hid (fun w => vector_any (stP l k ms j).x (stP l k ms j).y (stP l k ms (j + 1)).x (stP l k ms (j + 1)).y w a0 a1 b0 b1)
      have PR := Lib.hid (fun w => show Calls Tryz.prog 193 #[MV (mk ms j), Pt ((stP l k ms (j + 1)).x - (stP l k ms j).x) ((stP l k ms (j + 1)).y - (stP l k ms j).y)] w (fun e w' => e = .returned (LV (rlL l k ms j)) ∧ Ext w w') from roundingLine_any (mk ms j) ((stP l k ms (j + 1)).x - (stP l k ms j).x) ((stP l k ms (j + 1)).y - (stP l k ms j).y) w (HM.out j hj1) e0 e1 e2)
      have LS := Lib.hid (rlC_succ l k ms j)
      obtain ⟨N, hN⟩ : ∃ N, N = rlL l k ms j := ⟨_, rfl⟩
      obtain ⟨M, hM⟩ : ∃ M, M = mk ms j := ⟨_, rfl⟩
      obtain ⟨P, hP⟩ : ∃ P, P = stP l k ms j := ⟨_, rfl⟩
      obtain ⟨Q, hQ⟩ : ∃ Q, Q = stP l k ms (j + 1) := ⟨_, rfl⟩
      rw [← hM, ← hP, ← hQ, ← hN] at PR
      rw [← hP, ← hQ] at PV
      rw [← hN] at LS
      rw [← hM] at m0 m1 m2 m3 m4
      rw [← hP] at c0 c1
      rw [← hQ] at c2 c3
      clear hN hM hP hQ a0 a1 b0 b1 e0 e1 e2
      go_wp2_with fail
      obtain ⟨wv, hwv⟩ : ∃ wv, wv = wr.alloc (.cells #[.string M.n, .int .i64 M.x, .int .i64 M.y, .int .i64 M.s, .int .i64 M.z] 145) := ⟨_, rfl⟩
      have hX : Ext wr wv := hwv ▸ (Ext.refl wr).alloc _
      have F0 : LgAt g (j * 4) wr.heap.size P Q M wv := ⟨⟨hX.cellOf c0, hX.cellOf c1, hX.cellOf c2, hX.cellOf c3⟩, hwv ▸ boxed 0 rfl rfl, hwv ▸ boxed 1 rfl rfl, hwv ▸ boxed 2 rfl rfl, hwv ▸ boxed 3 rfl rfl, hwv ▸ boxed 4 rfl rfl⟩
      have ea : ∀ w', LgAt g (j * 4) wr.heap.size P Q M w' → w'.cell? ⟨g, j * 4, none⟩ = some (.int .i64 P.x) := fun w' h => h.1.1
      have eb : ∀ w', LgAt g (j * 4) wr.heap.size P Q M w' → w'.cell? ⟨g, j * 4 + 1, none⟩ = some (.int .i64 P.y) := fun w' h => h.1.2.1
      have ec : ∀ w', LgAt g (j * 4) wr.heap.size P Q M w' → w'.cell? ⟨g, j * 4 + 2, none⟩ = some (.int .i64 Q.x) := fun w' h => h.1.2.2.1
      have ed : ∀ w', LgAt g (j * 4) wr.heap.size P Q M w' → w'.cell? ⟨g, j * 4 + 3, none⟩ = some (.int .i64 Q.y) := fun w' h => h.1.2.2.2
      have f0 : ∀ w', LgAt g (j * 4) wr.heap.size P Q M w' → w'.cell? ⟨wr.heap.size, 0, none⟩ = some (.string M.n) := fun w' h => h.2.1
      have f1 : ∀ w', LgAt g (j * 4) wr.heap.size P Q M w' → w'.cell? ⟨wr.heap.size, 1, none⟩ = some (.int .i64 M.x) := fun w' h => h.2.2.1
      have f2 : ∀ w', LgAt g (j * 4) wr.heap.size P Q M w' → w'.cell? ⟨wr.heap.size, 2, none⟩ = some (.int .i64 M.y) := fun w' h => h.2.2.2.1
      have f3 : ∀ w', LgAt g (j * 4) wr.heap.size P Q M w' → w'.cell? ⟨wr.heap.size, 3, none⟩ = some (.int .i64 M.s) := fun w' h => h.2.2.2.2.1
      have f4 : ∀ w', LgAt g (j * 4) wr.heap.size P Q M w' → w'.cell? ⟨wr.heap.size, 4, none⟩ = some (.int .i64 M.z) := fun w' h => h.2.2.2.2.2
      have NB := Lib.hid (fun (B : Nat) (hB : B < w1.heap.size ∨ wr.heap.size ≤ B) (e : u4.ownBlock = some B) => show False by have := World.ownsRow.lt HO.out B e; omega)
      have HV2 := Lib.hid (HX.out.trans hX)
      have OV := Lib.hid (row_ext HO.out hX)
      rw [← hwv]
      clear hwv hX c0 c1 c2 c3 m0 m1 m2 m3 m4
      refine wp_region_held_drew (S := LgAt g (j * 4) wr.heap.size P Q M) (by kernel_rfl) (by (try dsimp only); exact F0.ext (Ext.refl _).drew) (fun hHeld => ?_)
      refine Ord.K 0 17 ?_; refine Ord.K 1 18 ?_; refine Ord.K 2 19 ?_; refine Ord.K 3 20 ?_; refine Ord.K 4 21 ?_; refine Ord.K 5 22 ?_
      refine wpAnyH_ready (rs := [6]) (by kernel_rfl) (by simp) ?_
      refine AllReadyH.cons rfl (fun K hK => ?_) AllReadyH.nil
      go_simp
      go_at_call 194
      refine (PV.out _).mono ?_
      rintro e wa ⟨rfl, hy⟩
      go_wp2_with fail
      have hE := (Ext.refl wv).drew.trans hy
      refine hK.out _ _ (F0.ext hE) (fun hHeld => ?_)
      clear hK K hy
      (try simp only [Act.put, Ord.a, Ord.b, Ord.c])
      refine wpAnyH_ready (rs := [7]) (by kernel_rfl) (by simp) ?_
      refine AllReadyH.cons rfl (fun K hK => ?_) AllReadyH.nil
      go_simp
      go_at_call 193
      refine (PR.out _).mono ?_
      rintro e wb ⟨rfl, hy⟩
      go_wp2_with fail
      replace hE := hE.trans hy
      refine hK.out _ _ (F0.ext hE) (fun hHeld => ?_)
      clear hK K hy
      (try simp only [Act.put, Ord.a, Ord.b, Ord.c])
      refine wpAnyH_ready (rs := [8]) (by kernel_rfl) (by simp) ?_
      refine AllReadyH.cons rfl (fun K hK => ?_) AllReadyH.nil
      go_simp
      have hE2 : Ext wv (wb.alloc (.cells #[.int .i64 N.a, .int .i64 N.b, .int .i64 N.c, .int .i64 N.d] 27)) := hE.alloc _
      have F1 := F0.ext hE2
      refine hK.out _ _ F1 (fun hHeld => ?_)
      clear hK K
      (try simp only [Act.put, Ord.a, Ord.b, Ord.c])
      have OA := row_ext OV.out hE2
      have CC := lit4_cells (w := wb) (x := .int .i64 N.a) (y := .int .i64 N.b) (z := .int .i64 N.c) (u := .int .i64 N.d) (t := 27)
      have XA := HV2.out.trans hE2
      refine wpAnyH_ready (rs := [9]) (by kernel_rfl) (by simp) ?_
      refine AllReadyH.cons rfl (fun K hK => ?_) AllReadyH.nil
      refine step_append_own rfl (.tmp 17) (.tmp 25) 118 rfl w1.heap.size 27 i0 (Sg 0 0 0 0) 4 32 Tryz.underlying118 hin hz0 hz1 hz2 rfl (by decide) _ j _ (by simp [Act.eval, Act.put]) OA ⟨wb.heap.size, 0, none⟩ 1 1 [.int .i64 N.a, .int .i64 N.b, .int .i64 N.c, .int .i64 N.d] (by simp [Act.eval, Act.put]) rfl CC (ones4 _ _ _ _) (by unfold maxLen; omega) (by omega) (Ext.size XA) ?_
      intro v1 w5 hown hgrow
      have F2 : LgAt g (j * 4) wr.heap.size P Q M w5 := F1.grown hgrow (fun e => NB.out _ (.inl gb) e) (fun e => NB.out _ (.inr (Nat.le_refl _)) e)
      refine hK.out _ _ F2 (fun hHeld => ?_)
      clear hK K
      (try simp only [Act.put, Ord.a, Ord.b, Ord.c])
      refine Ord.K 10 4 ?_
      refine wpAnyH_done (by kernel_rfl) ?_ _
      have O5 := Lib.hid (show w5.ownsRow w1.heap.size 27 4 v1 (j + 1) (rlC l k ms (j + 1)) by rw [LS.out]; exact hown)
      have X5 := Lib.hid (row_grown (w0 := w1) OA hgrow (Nat.le_refl _) XA)
      clear hown hgrow OA CC
      go_wp2
      go_roundw
      case rel => exact ⟨j + 1, by go_num, by omega, O5.out, X5.out⟩
      case measure => simp [intOf]; omega
    · obtain rfl : j = ms.length := by omega
      go_wp2
      go_ret
      exact ⟨_, rfl, row_mono HO.out (Ext.size X1.out), X1.out.trans HX.out⟩
end Go.Proofs.YtmlojndkpnhalaaGreat.Crs
namespace Go.Proofs.YtmlojndkpnhalaaGreat.Crs
open Go.ChangeShapes Go.WideShapes Go.ChangeAt Go.RowKit Go.PlainAid
open Go.Proofs.YtmlojndkpnhalaaGreat.Num Go.Proofs.YtmlojndkpnhalaaGreat.Kit Go.Proofs.YtmlojndkpnhalaaGreat.Pts Go.Proofs.YtmlojndkpnhalaaGreat.Seg Go.Proofs.YtmlojndkpnhalaaGreat.Div Go.Proofs.YtmlojndkpnhalaaGreat.Root Go.Proofs.YtmlojndkpnhalaaGreat.Rt
set_option linter.unusedVariables false
set_option linter.unusedSimpArgs false
theorem floorE (a b : Int) (w : World) (hb : 1 ≤ b) (h1 : -4000000000000000000 ≤ a) (h2 : a ≤ 4000000000000000000) :
    Calls Tryz.prog 129 #[.int .i64 a, .int .i64 b] w fun e w' => e = .returned (.int .i64 (flo a b)) ∧ Ext w w' :=
  (floor_any a b w hb h1 h2).mono fun e w' h => ⟨h.1, h.2 ▸ Ext.refl w⟩
theorem rdL_port {m : M5} {dx dy : Int} (h : m.s = 1) : rdL m dx dy = ⟨m.x, m.y, rdX m (10 * m.z) dx dy, rdY m (10 * m.z) dx dy⟩ := by unfold rdL rdW; rw [if_pos h, if_pos h]
theorem rdL_star {m : M5} {dx dy : Int} (h : m.s = 2) : rdL m dx dy = ⟨rdX m (-(10 * m.z)) dx dy, rdY m (-(10 * m.z)) dx dy, m.x, m.y⟩ := by unfold rdL rdW; rw [if_neg (by omega), if_neg (by omega)]
theorem ll_done {n : Nat} {w F : World} {tmps : Array Value} {l : L4} {b : Bool} (B : Box F n (cellsL l)) (hC : Ext w F) (ha : tmps[4]? = some (.pointer (some ⟨n, 0, none⟩))) (hb : tmps[5]? = some (.bool b)) :
    bodyPost Tryz.prog Tryz.f145 (fun e w' => e = .returned (.tuple #[LV l, .bool b]) ∧ Ext w w') Exit.ret ⟨tmps, []⟩ F := by
  obtain ⟨⟨g0, g1, g2, g3⟩, _⟩ := B.four
  exact bodyPost_ret (v := .tuple #[LV l, .bool b]) (by simp [results, Tryz.f145, go_sem, ha, hb, g0, g1, g2, g3]) rfl ⟨rfl, hC⟩
set_option maxRecDepth 100000 in
set_option maxHeartbeats 4000000 in
theorem l06Line_spec (l k : L4) (a : Option Addr) (cap : Nat) (ms : List M5) (i : Nat) (w : World) (hf : Mks w a ms) (hq : crB l k ms = true) (hi : i < ms.length) :
    Calls Tryz.prog 145 #[CV l k (.slice a ms.length cap), .int .i64 i] w fun e w' => e = .returned (.tuple #[LV (rlL l k ms i), .bool (rlB l k ms i)]) ∧ Ext w w' := by
  obtain ⟨hv, hv2⟩ := cr_lines hq
  have h8 := cr_eight hq
  obtain ⟨e0, e1, e2⟩ := cr_vec hq (show i < ms.length + 1 by omega)
  obtain ⟨⟨mx, my⟩, hs, z1, z2⟩ := mk_yes (cr_mk hq hi)
  obtain ⟨s0, s1⟩ := st_co (cr_pv hq) i
  have ST := Lib.hid (fun w (hf : Mks w a ms) => stations_spec l k a cap ms w hf h8 hv hv2)
  have SG := Lib.hid (fun (i : Nat) (hi : i < ms.length + 2) => cellsP_get _ _ _ (stL_at l k ms i hi))
  have HB := Lib.hid (show rlB l k ms i = sgB (rlL l k ms i).a (rlL l k ms i).b (rlL l k ms i).c (rlL l k ms i).d from rfl)
  have HR := Lib.hid (show rlL l k ms i = rdL (mk ms i) ((stP l k ms (i + 1)).x - (stP l k ms i).x) ((stP l k ms (i + 1)).y - (stP l k ms i).y) from rfl)
  obtain ⟨b, off, rfl, hb⟩ := hf.row (by omega)
  have HA := Lib.hid (hb i hi)
  have HF := Lib.hid hf
  clear hb hf hq
  rw [stP_mark l k ms i hi] at HR e0 e1 e2
  dsimp only at HR e0 e1 e2
  have n1 := rt_one e2
  have n2 := rt_up e0 e1
  obtain ⟨q0, q1⟩ := sqs_bd e0 e1
  obtain ⟨M, hM⟩ : ∃ M, M = mk ms i := ⟨_, rfl⟩
  obtain ⟨P, hP⟩ : ∃ P, P = stP l k ms i := ⟨_, rfl⟩
  have SP := Lib.hid (SG.out i (by omega))
  rw [← hP] at SP s0 s1
  rw [← hM, ← hP] at HR e0 e1 e2 n1 n2 q0 q1
  rw [← hM] at HA hs z1 z2 mx my
  obtain ⟨CL, hCL⟩ : ∃ CL, CL = cellsP (stL l k ms) := ⟨_, rfl⟩
  rw [← hCL] at SP ST
  clear SG hM hP hCL hv hv2
  have PM := Lib.hid (fun w => minus_any M.x M.y P.x P.y w mx my s0 s1)
  obtain ⟨dx, hdx⟩ : ∃ dx, dx = M.x - P.x := ⟨_, rfl⟩
  obtain ⟨dy, hdy⟩ : ∃ dy, dy = M.y - P.y := ⟨_, rfl⟩
  rw [← hdx] at HR e0 e2 n1 n2 q0 q1 PM
  rw [← hdy] at HR e1 e2 n1 n2 q0 q1 PM
  clear hdx hdy
  have PD := Lib.hid (fun w => dot_any dx dy dx dy w e0 e1 e0 e1)
  have PN := Lib.hid (fun w => rootE (dx * dx + dy * dy) w q0 (by omega))
  obtain ⟨N, hN⟩ : ∃ N, N = rt (dx * dx + dy * dy) := ⟨_, rfl⟩
  rw [← hN] at n1 n2 PN
  have X0 : ∀ wd : Int, M.x + flo (dy * wd) N = rdX M wd dx dy := fun wd => by rw [hN]; rfl
  have Y0 : ∀ wd : Int, M.y - flo (dx * wd) N = rdY M wd dx dy := fun wd => by rw [hN]; rfl
  clear hN
  obtain ⟨W1, hW1⟩ : ∃ W1, W1 = w.alloc (.cells (cellsC l k (.slice (some ⟨b, off, none⟩) ms.length cap)).toArray 30) := ⟨_, rfl⟩
  have X1 := Lib.hid (show Ext w W1 from hW1 ▸ (Ext.refl w).alloc _)
  have zV : W1.heap.size = w.heap.size + 1 := by rw [hW1]; simp
  obtain ⟨W3, hW3⟩ : ∃ W3, W3 = ((w.alloc (.cells (cellsC l k (.slice (some ⟨b, off, none⟩) ms.length cap)).toArray 30)).alloc (.cells #[.int .i64 0, .int .i64 0, .int .i64 0, .int .i64 0] 27)).alloc (.cells #[.string M.n, .int .i64 M.x, .int .i64 M.y, .int .i64 M.s, .int .i64 M.z] 145) := ⟨_, rfl⟩
  have X3 := Lib.hid (show Ext w W3 from hW3 ▸ (((Ext.refl w).alloc _).alloc _).alloc _)
  have X13 := Lib.hid (show Ext W1 W3 from hW3 ▸ hW1 ▸ (((Ext.refl _).alloc _).alloc _))
  have BC := Lib.hid (show Box W3 w.heap.size (cellsC l k (.slice (some ⟨b, off, none⟩) ms.length cap)) from hW3 ▸ ((Box.new rfl).alloc _).alloc _)
  have BL := Lib.hid (show Box W3 (w.heap.size + 1) [.int .i64 0, .int .i64 0, .int .i64 0, .int .i64 0] from hW3 ▸ (Box.new4 (by simp)).alloc _)
  have BM := Lib.hid (show Box W3 (w.heap.size + 1 + 1) [.string M.n, .int .i64 M.x, .int .i64 M.y, .int .i64 M.s, .int .i64 M.z] from hW3 ▸ Box.new (vs := [.string M.n, .int .i64 M.x, .int .i64 M.y, .int .i64 M.s, .int .i64 M.z]) (by simp))
  have zW : W3.heap.size = w.heap.size + 1 + 1 + 1 := by rw [hW3]; simp
  have i0 : (0 : Int) ≤ (i : Int) := by omega
  have i1 : (i : Int) < (ms.length : Int) := by omega
  have i2 : (i : Int) < (ms.length : Int) + 2 := by omega
  have i3 : (i : Int) < ((ms.length + 2 : Nat) : Int) := by omega
  have i4 : i < ms.length + 2 := by omega
  have m0 : ∀ A B, ((w.alloc A).alloc B).cell? ⟨b, off + i * 5, none⟩ = some (.string M.n) := fun A B => (((Ext.refl w).alloc A).alloc B).cellOf HA.out.1
  have m1 : ∀ A B, ((w.alloc A).alloc B).cell? ⟨b, off + i * 5 + 1, none⟩ = some (.int .i64 M.x) := fun A B => (((Ext.refl w).alloc A).alloc B).cellOf HA.out.2.1
  have m2 : ∀ A B, ((w.alloc A).alloc B).cell? ⟨b, off + i * 5 + 2, none⟩ = some (.int .i64 M.y) := fun A B => (((Ext.refl w).alloc A).alloc B).cellOf HA.out.2.2.1
  have m3 : ∀ A B, ((w.alloc A).alloc B).cell? ⟨b, off + i * 5 + 3, none⟩ = some (.int .i64 M.s) := fun A B => (((Ext.refl w).alloc A).alloc B).cellOf HA.out.2.2.2.1
  have m4 : ∀ A B, ((w.alloc A).alloc B).cell? ⟨b, off + i * 5 + 4, none⟩ = some (.int .i64 M.z) := fun A B => (((Ext.refl w).alloc A).alloc B).cellOf HA.out.2.2.2.2
  have ec0 : ∀ w', Ext W3 w' → w'.cell? ⟨w.heap.size, 0, none⟩ = some (.int .i64 l.a) := fun w' h => h.cellOf (BC.out 0 _ rfl).1
  have ec1 : ∀ w', Ext W3 w' → w'.cell? ⟨w.heap.size, 1, none⟩ = some (.int .i64 l.b) := fun w' h => h.cellOf (BC.out 1 _ rfl).1
  have ec2 : ∀ w', Ext W3 w' → w'.cell? ⟨w.heap.size, 2, none⟩ = some (.int .i64 l.c) := fun w' h => h.cellOf (BC.out 2 _ rfl).1
  have ec3 : ∀ w', Ext W3 w' → w'.cell? ⟨w.heap.size, 3, none⟩ = some (.int .i64 l.d) := fun w' h => h.cellOf (BC.out 3 _ rfl).1
  have ec4 : ∀ w', Ext W3 w' → w'.cell? ⟨w.heap.size, 4, none⟩ = some (.int .i64 k.a) := fun w' h => h.cellOf (BC.out 4 _ rfl).1
  have ec5 : ∀ w', Ext W3 w' → w'.cell? ⟨w.heap.size, 5, none⟩ = some (.int .i64 k.b) := fun w' h => h.cellOf (BC.out 5 _ rfl).1
  have ec6 : ∀ w', Ext W3 w' → w'.cell? ⟨w.heap.size, 6, none⟩ = some (.int .i64 k.c) := fun w' h => h.cellOf (BC.out 6 _ rfl).1
  have ec7 : ∀ w', Ext W3 w' → w'.cell? ⟨w.heap.size, 7, none⟩ = some (.int .i64 k.d) := fun w' h => h.cellOf (BC.out 7 _ rfl).1
  have ec8 : ∀ w', Ext W3 w' → w'.cell? ⟨w.heap.size, 8, none⟩ = some (.slice (some ⟨b, off, none⟩) ms.length cap) := fun w' h => h.cellOf (BC.out 8 _ rfl).1
  have em0 : ∀ w', Ext W3 w' → w'.cell? ⟨w.heap.size + 1 + 1, 0, none⟩ = some (.string M.n) := fun w' h => h.cellOf (BM.out 0 _ rfl).1
  have em1 : ∀ w', Ext W3 w' → w'.cell? ⟨w.heap.size + 1 + 1, 1, none⟩ = some (.int .i64 M.x) := fun w' h => h.cellOf (BM.out 1 _ rfl).1
  have em2 : ∀ w', Ext W3 w' → w'.cell? ⟨w.heap.size + 1 + 1, 2, none⟩ = some (.int .i64 M.y) := fun w' h => h.cellOf (BM.out 2 _ rfl).1
  have em3 : ∀ w', Ext W3 w' → w'.cell? ⟨w.heap.size + 1 + 1, 3, none⟩ = some (.int .i64 M.s) := fun w' h => h.cellOf (BM.out 3 _ rfl).1
  have em4 : ∀ w', Ext W3 w' → w'.cell? ⟨w.heap.size + 1 + 1, 4, none⟩ = some (.int .i64 M.z) := fun w' h => h.cellOf (BM.out 4 _ rfl).1
  clear HA
  clear hW1
  go_enter Tryz.func145, Tryz.ntmps145
  go_upto_region 2 with fail
  rw [← hW3]
  clear hW3 m0 m1 m2 m3 m4
  go_cut [7] (fun s wx => (∃ B, s = .pointer (some ⟨B, 0, none⟩) ∧ w.heap.size + 1 + 1 < B ∧ Box wx B [.int .i64 dx, .int .i64 dy]) ∧ Ext W3 wx)
  case first =>
    refine wp_region_held_drew (S := fun w' => Ext W3 w') (by kernel_rfl) (by (try dsimp only); exact Ext.drew (Ext.refl W3)) (fun hHeld => ?_)
    have hE : Ext W3 W3.drew := Ext.drew (Ext.refl W3)
    obtain ⟨V0, hV0⟩ : ∃ V0, V0 = W3.drew := ⟨_, rfl⟩
    rw [← hV0] at hE hHeld ⊢
    clear hV0
    refine Ord.K 0 17 ?_; refine Ord.K 2 19 ?_; refine Ord.K 4 21 ?_; refine Ord.K 1 18 ?_
    refine wpAnyH_ready (rs := [3, 8]) (by kernel_rfl) (by simp) ?_
    refine (AllReadyH.cons rfl (fun K hK => ?_) (AllReadyH.cons rfl (fun K hK => ?_) AllReadyH.nil))
    · go_simp
      go_at_call 143
      refine (ST.out _ (HF.out.ext (X3.out.trans hE))).mono ?_
      rintro e V1 ⟨v, rfl, hO, hy⟩
      go_wp2_with fail
      have zy := Ext.size hy
      have hE' := hE.trans hy
      refine hK.out _ _ hE' (fun hHeld => ?_)
      clear hK K
      (try simp only [Act.put, Ord.a, Ord.b, Ord.c])
      replace hE := hE'
      obtain ⟨g, cp, rfl, hcp, hg0, hC⟩ := row_some hO (by omega)
      have c0 := (hC (i * 2) (by omega)).trans SP.out.1
      have c1 := (hC (i * 2 + 1) (by omega)).trans SP.out.2
      clear hO hC
      clear hE' hy
      refine Ord.K 5 22 ?_
      refine wpAnyH_ready (rs := [6, 8]) (by kernel_rfl) (by simp) ?_
      refine (AllReadyH.cons rfl (fun K hK => ?_) (AllReadyH.cons rfl (fun K hK => ?_) AllReadyH.nil))
      · go_simp
        refine hK.out _ _ hE (fun hHeld => ?_)
        clear hK K
        (try simp only [Act.put, Ord.a, Ord.b, Ord.c])
        refine wpAnyH_ready (rs := [7, 8]) (by kernel_rfl) (by simp) ?_
        refine (AllReadyH.cons rfl (fun K hK => ?_) (AllReadyH.cons rfl (fun K hK => ?_) AllReadyH.nil))
        · go_simp
          go_at_call 131
          refine (PM.out _).mono ?_
          rintro e V2 ⟨rfl, hy⟩
          go_wp2_with fail
          have zy := Ext.size hy
          have hE' := hE.trans hy
          refine hK.out _ _ hE' (fun hHeld => ?_)
          clear hK K
          (try simp only [Act.put, Ord.a, Ord.b, Ord.c])
          replace c0 := cell_ext c0 hy
          replace c1 := cell_ext c1 hy
          replace hE := hE'
          clear hE' hy
          refine wpAnyH_ready (rs := [8]) (by kernel_rfl) (by simp) ?_
          refine (AllReadyH.cons rfl (fun K hK => ?_) AllReadyH.nil)
          go_simp
          have hy : Ext V2 (V2.alloc (.cells #[.int .i64 0, .int .i64 0] 25)) := (Ext.refl V2).alloc _
          have hE' := hE.trans hy
          refine hK.out _ _ hE' (fun hHeld => ?_)
          clear hK K
          (try simp only [Act.put, Ord.a, Ord.b, Ord.c])
          replace c0 := cell_ext c0 hy
          replace c1 := cell_ext c1 hy
          have P8 : Box (V2.alloc (.cells #[.int .i64 0, .int .i64 0] 25)) V2.heap.size [.int .i64 0, .int .i64 0] := Box.new (vs := [.int .i64 0, .int .i64 0]) rfl
          have z8 := Ext.size hE
          have y8 : V2.heap.size < (V2.alloc (.cells #[.int .i64 0, .int .i64 0] 25)).heap.size := by simp
          replace hE := hE'
          clear hE' hy
          generalize V2.alloc (.cells #[.int .i64 0, .int .i64 0] 25) = V3 at *
          refine wpAnyH_ready (rs := [9]) (by kernel_rfl) (by simp) ?_
          refine (AllReadyH.cons rfl (fun K hK => ?_) AllReadyH.nil)
          obtain ⟨⟨r0, r1⟩, r2, r3⟩ := P8.two
          go_simp
          have hE' : Ext W3 ((V3.setCell ⟨V2.heap.size, 0, none⟩ (.int .i64 dx)).setCell ⟨V2.heap.size, 1, none⟩ (.int .i64 dy)) := ((hE.setNew (by first | omega | (simp; omega) | simp) _).setNew (by first | omega | (simp; omega) | simp) _)
          refine hK.out _ _ hE' (fun hHeld => ?_)
          clear hK K r0 r1 r2 r3
          (try simp only [Act.put, Ord.a, Ord.b, Ord.c])
          replace P8 := P8.set2 (u := .int .i64 dx) (v := .int .i64 dy)
          replace hE := hE'
          clear hE'
          generalize ((V3.setCell ⟨V2.heap.size, 0, none⟩ (.int .i64 dx)).setCell ⟨V2.heap.size, 1, none⟩ (.int .i64 dy)) = V4 at *
          refine wpAnyH_done (by kernel_rfl) ?_ _
          go_wp2_with fail; go_meet; exact ⟨⟨_, rfl, by omega, P8⟩, hE⟩
        · go_simp
          have hy : Ext V1 (V1.alloc (.cells #[.int .i64 0, .int .i64 0] 25)) := (Ext.refl V1).alloc _
          have hE' := hE.trans hy
          refine hK.out _ _ hE' (fun hHeld => ?_)
          clear hK K
          (try simp only [Act.put, Ord.a, Ord.b, Ord.c])
          replace c0 := cell_ext c0 hy
          replace c1 := cell_ext c1 hy
          have P8 : Box (V1.alloc (.cells #[.int .i64 0, .int .i64 0] 25)) V1.heap.size [.int .i64 0, .int .i64 0] := Box.new (vs := [.int .i64 0, .int .i64 0]) rfl
          have z8 := Ext.size hE
          have y8 : V1.heap.size < (V1.alloc (.cells #[.int .i64 0, .int .i64 0] 25)).heap.size := by simp
          replace hE := hE'
          clear hE' hy
          generalize V1.alloc (.cells #[.int .i64 0, .int .i64 0] 25) = V2 at *
          refine wpAnyH_ready (rs := [7]) (by kernel_rfl) (by simp) ?_
          refine (AllReadyH.cons rfl (fun K hK => ?_) AllReadyH.nil)
          go_simp
          go_at_call 131
          refine (PM.out _).mono ?_
          rintro e V3 ⟨rfl, hy⟩
          go_wp2_with fail
          have zy := Ext.size hy
          have hE' := hE.trans hy
          refine hK.out _ _ hE' (fun hHeld => ?_)
          clear hK K
          (try simp only [Act.put, Ord.a, Ord.b, Ord.c])
          replace c0 := cell_ext c0 hy
          replace c1 := cell_ext c1 hy
          replace P8 := P8.ext hy
          replace hE := hE'
          clear hE' hy
          refine wpAnyH_ready (rs := [9]) (by kernel_rfl) (by simp) ?_
          refine (AllReadyH.cons rfl (fun K hK => ?_) AllReadyH.nil)
          obtain ⟨⟨r0, r1⟩, r2, r3⟩ := P8.two
          go_simp
          have hE' : Ext W3 ((V3.setCell ⟨V1.heap.size, 0, none⟩ (.int .i64 dx)).setCell ⟨V1.heap.size, 1, none⟩ (.int .i64 dy)) := ((hE.setNew (by first | omega | (simp; omega) | simp) _).setNew (by first | omega | (simp; omega) | simp) _)
          refine hK.out _ _ hE' (fun hHeld => ?_)
          clear hK K r0 r1 r2 r3
          (try simp only [Act.put, Ord.a, Ord.b, Ord.c])
          replace P8 := P8.set2 (u := .int .i64 dx) (v := .int .i64 dy)
          replace hE := hE'
          clear hE'
          generalize ((V3.setCell ⟨V1.heap.size, 0, none⟩ (.int .i64 dx)).setCell ⟨V1.heap.size, 1, none⟩ (.int .i64 dy)) = V4 at *
          refine wpAnyH_done (by kernel_rfl) ?_ _
          go_wp2_with fail; go_meet; exact ⟨⟨_, rfl, by omega, P8⟩, hE⟩
      · go_simp
        have hy : Ext V1 (V1.alloc (.cells #[.int .i64 0, .int .i64 0] 25)) := (Ext.refl V1).alloc _
        have hE' := hE.trans hy
        refine hK.out _ _ hE' (fun hHeld => ?_)
        clear hK K
        (try simp only [Act.put, Ord.a, Ord.b, Ord.c])
        replace c0 := cell_ext c0 hy
        replace c1 := cell_ext c1 hy
        have P8 : Box (V1.alloc (.cells #[.int .i64 0, .int .i64 0] 25)) V1.heap.size [.int .i64 0, .int .i64 0] := Box.new (vs := [.int .i64 0, .int .i64 0]) rfl
        have z8 := Ext.size hE
        have y8 : V1.heap.size < (V1.alloc (.cells #[.int .i64 0, .int .i64 0] 25)).heap.size := by simp
        replace hE := hE'
        clear hE' hy
        generalize V1.alloc (.cells #[.int .i64 0, .int .i64 0] 25) = V2 at *
        refine wpAnyH_ready (rs := [6]) (by kernel_rfl) (by simp) ?_
        refine (AllReadyH.cons rfl (fun K hK => ?_) AllReadyH.nil)
        go_simp
        refine hK.out _ _ hE (fun hHeld => ?_)
        clear hK K
        (try simp only [Act.put, Ord.a, Ord.b, Ord.c])
        refine wpAnyH_ready (rs := [7]) (by kernel_rfl) (by simp) ?_
        refine (AllReadyH.cons rfl (fun K hK => ?_) AllReadyH.nil)
        go_simp
        go_at_call 131
        refine (PM.out _).mono ?_
        rintro e V3 ⟨rfl, hy⟩
        go_wp2_with fail
        have zy := Ext.size hy
        have hE' := hE.trans hy
        refine hK.out _ _ hE' (fun hHeld => ?_)
        clear hK K
        (try simp only [Act.put, Ord.a, Ord.b, Ord.c])
        replace c0 := cell_ext c0 hy
        replace c1 := cell_ext c1 hy
        replace P8 := P8.ext hy
        replace hE := hE'
        clear hE' hy
        refine wpAnyH_ready (rs := [9]) (by kernel_rfl) (by simp) ?_
        refine (AllReadyH.cons rfl (fun K hK => ?_) AllReadyH.nil)
        obtain ⟨⟨r0, r1⟩, r2, r3⟩ := P8.two
        go_simp
        have hE' : Ext W3 ((V3.setCell ⟨V1.heap.size, 0, none⟩ (.int .i64 dx)).setCell ⟨V1.heap.size, 1, none⟩ (.int .i64 dy)) := ((hE.setNew (by first | omega | (simp; omega) | simp) _).setNew (by first | omega | (simp; omega) | simp) _)
        refine hK.out _ _ hE' (fun hHeld => ?_)
        clear hK K r0 r1 r2 r3
        (try simp only [Act.put, Ord.a, Ord.b, Ord.c])
        replace P8 := P8.set2 (u := .int .i64 dx) (v := .int .i64 dy)
        replace hE := hE'
        clear hE'
        generalize ((V3.setCell ⟨V1.heap.size, 0, none⟩ (.int .i64 dx)).setCell ⟨V1.heap.size, 1, none⟩ (.int .i64 dy)) = V4 at *
        refine wpAnyH_done (by kernel_rfl) ?_ _
        go_wp2_with fail; go_meet; exact ⟨⟨_, rfl, by omega, P8⟩, hE⟩
    · go_simp
      have hy : Ext V0 (V0.alloc (.cells #[.int .i64 0, .int .i64 0] 25)) := (Ext.refl V0).alloc _
      have hE' := hE.trans hy
      refine hK.out _ _ hE' (fun hHeld => ?_)
      clear hK K
      (try simp only [Act.put, Ord.a, Ord.b, Ord.c])
      have P8 : Box (V0.alloc (.cells #[.int .i64 0, .int .i64 0] 25)) V0.heap.size [.int .i64 0, .int .i64 0] := Box.new (vs := [.int .i64 0, .int .i64 0]) rfl
      have z8 := Ext.size hE
      have y8 : V0.heap.size < (V0.alloc (.cells #[.int .i64 0, .int .i64 0] 25)).heap.size := by simp
      replace hE := hE'
      clear hE' hy
      generalize V0.alloc (.cells #[.int .i64 0, .int .i64 0] 25) = V1 at *
      refine wpAnyH_ready (rs := [3]) (by kernel_rfl) (by simp) ?_
      refine (AllReadyH.cons rfl (fun K hK => ?_) AllReadyH.nil)
      go_simp
      go_at_call 143
      refine (ST.out _ (HF.out.ext (X3.out.trans hE))).mono ?_
      rintro e V2 ⟨v, rfl, hO, hy⟩
      go_wp2_with fail
      have zy := Ext.size hy
      have hE' := hE.trans hy
      refine hK.out _ _ hE' (fun hHeld => ?_)
      clear hK K
      (try simp only [Act.put, Ord.a, Ord.b, Ord.c])
      replace P8 := P8.ext hy
      replace hE := hE'
      obtain ⟨g, cp, rfl, hcp, hg0, hC⟩ := row_some hO (by omega)
      have c0 := (hC (i * 2) (by omega)).trans SP.out.1
      have c1 := (hC (i * 2 + 1) (by omega)).trans SP.out.2
      clear hO hC
      clear hE' hy
      refine Ord.K 5 22 ?_
      refine wpAnyH_ready (rs := [6]) (by kernel_rfl) (by simp) ?_
      refine (AllReadyH.cons rfl (fun K hK => ?_) AllReadyH.nil)
      go_simp
      refine hK.out _ _ hE (fun hHeld => ?_)
      clear hK K
      (try simp only [Act.put, Ord.a, Ord.b, Ord.c])
      refine wpAnyH_ready (rs := [7]) (by kernel_rfl) (by simp) ?_
      refine (AllReadyH.cons rfl (fun K hK => ?_) AllReadyH.nil)
      go_simp
      go_at_call 131
      refine (PM.out _).mono ?_
      rintro e V3 ⟨rfl, hy⟩
      go_wp2_with fail
      have zy := Ext.size hy
      have hE' := hE.trans hy
      refine hK.out _ _ hE' (fun hHeld => ?_)
      clear hK K
      (try simp only [Act.put, Ord.a, Ord.b, Ord.c])
      replace c0 := cell_ext c0 hy
      replace c1 := cell_ext c1 hy
      replace P8 := P8.ext hy
      replace hE := hE'
      clear hE' hy
      refine wpAnyH_ready (rs := [9]) (by kernel_rfl) (by simp) ?_
      refine (AllReadyH.cons rfl (fun K hK => ?_) AllReadyH.nil)
      obtain ⟨⟨r0, r1⟩, r2, r3⟩ := P8.two
      go_simp
      have hE' : Ext W3 ((V3.setCell ⟨V0.heap.size, 0, none⟩ (.int .i64 dx)).setCell ⟨V0.heap.size, 1, none⟩ (.int .i64 dy)) := ((hE.setNew (by first | omega | (simp; omega) | simp) _).setNew (by first | omega | (simp; omega) | simp) _)
      refine hK.out _ _ hE' (fun hHeld => ?_)
      clear hK K r0 r1 r2 r3
      (try simp only [Act.put, Ord.a, Ord.b, Ord.c])
      replace P8 := P8.set2 (u := .int .i64 dx) (v := .int .i64 dy)
      replace hE := hE'
      clear hE'
      generalize ((V3.setCell ⟨V0.heap.size, 0, none⟩ (.int .i64 dx)).setCell ⟨V0.heap.size, 1, none⟩ (.int .i64 dy)) = V4 at *
      refine wpAnyH_done (by kernel_rfl) ?_ _
      go_wp2_with fail; go_meet; exact ⟨⟨_, rfl, by omega, P8⟩, hE⟩
  case rest =>
    obtain ⟨⟨B7, rfl, hB7, P7⟩, X4⟩ := hcut
    obtain ⟨⟨d0, d1⟩, _⟩ := P7.two
    go_wp2_with fail
    refine (PD.out _).mono ?_
    rintro e w5 ⟨rfl, hy⟩
    replace d0 := hy.cellOf d0
    replace d1 := hy.cellOf d1
    replace X4 := X4.trans hy
    clear hy P7
    go_wp2_with fail
    refine (PN.out _).mono ?_
    rintro e w6 ⟨rfl, hy⟩
    replace d0 := hy.cellOf d0
    replace d1 := hy.cellOf d1
    have X6 := X4.trans hy
    have z6 := Ext.size X6
    clear hy X4
    rcases hs with hs | hs
    · skip
      obtain ⟨a1, a2⟩ := mul_bd 2000000 50000 e1 (show -50000 ≤ 10 * M.z ∧ 10 * M.z ≤ 50000 by omega)
      obtain ⟨b1, b2⟩ := mul_bd 2000000 50000 e0 (show -50000 ≤ 10 * M.z ∧ 10 * M.z ≤ 50000 by omega)
      simp only [Int.reduceMul, Int.reduceNeg] at a1 a2 b1 b2
      obtain ⟨c1, c2⟩ := flo_bd n1 100000000000 a1 a2
      obtain ⟨d3, d4⟩ := flo_bd n1 100000000000 b1 b2
      have FE := Lib.hid (fun w => floorE (dy * (10 * M.z)) N w n1 (by omega) (by omega))
      have FS := Lib.hid (fun w => floorE (dx * (10 * M.z)) N w n1 (by omega) (by omega))
      obtain ⟨E, hE⟩ : ∃ E, E = flo (dy * (10 * M.z)) N := ⟨_, rfl⟩
      obtain ⟨S, hS⟩ : ∃ S, S = flo (dx * (10 * M.z)) N := ⟨_, rfl⟩
      rw [← hE] at FE c1 c2
      rw [← hS] at FS d3 d4
      unfold Co at mx my
      have T1 : IntKind.i64.wrap (M.x + E) = M.x + E := IntWalk.i64_in _ (by omega)
      have T2 : IntKind.i64.wrap (M.y - S) = M.y - S := IntWalk.i64_in _ (by omega)
      have T3 : IntKind.i64.wrap (dy * (10 * M.z)) = dy * (10 * M.z) := IntWalk.i64_in _ (by omega)
      have T4 : IntKind.i64.wrap (dx * (10 * M.z)) = dx * (10 * M.z) := IntWalk.i64_in _ (by omega)
      have T5 : IntKind.i64.wrap (10 * M.z) = 10 * M.z := IntWalk.i64_in _ (by omega)
      have T6 : IntKind.i64.wrap (-(10 * M.z)) = -(10 * M.z) := IntWalk.i64_in _ (by omega)
      have HR2 := Lib.hid (show rlL l k ms i = (⟨M.x, M.y, M.x + E, M.y - S⟩ : L4) by rw [HR.out, rdL_port hs, ← X0 (10 * M.z), ← Y0 (10 * M.z), hE, hS])
      replace HB := Lib.hid (show rlB l k ms i = sgB M.x M.y (M.x + E) (M.y - S) by rw [HB.out, HR2.out])
      clear hE hS X0 Y0
      clear HR
      have m0 := em0 _ X6
      have m1 := em1 _ X6
      have m2 := em2 _ X6
      have m3 := em3 _ X6
      have m4 := em4 _ X6
      rw [hs] at m3
      clear ec0 ec1 ec2 ec3 ec4 ec5 ec6 ec7 ec8 em0 em1 em2 em3 em4
      go_upto_region 7 with fail
      have em0 : ∀ w', Ext w6 w' → w'.cell? ⟨w.heap.size + 1 + 1, 0, none⟩ = some (.string M.n) := fun w' h => h.cellOf m0
      have em1 : ∀ w', Ext w6 w' → w'.cell? ⟨w.heap.size + 1 + 1, 1, none⟩ = some (.int .i64 M.x) := fun w' h => h.cellOf m1
      have em2 : ∀ w', Ext w6 w' → w'.cell? ⟨w.heap.size + 1 + 1, 2, none⟩ = some (.int .i64 M.y) := fun w' h => h.cellOf m2
      have em3 : ∀ w', Ext w6 w' → w'.cell? ⟨w.heap.size + 1 + 1, 3, none⟩ = some (.int .i64 1) := fun w' h => h.cellOf m3
      have ed0 : ∀ w', Ext w6 w' → w'.cell? ⟨B7, 0, none⟩ = some (.int .i64 dx) := fun w' h => h.cellOf d0
      have ed1 : ∀ w', Ext w6 w' → w'.cell? ⟨B7, 1, none⟩ = some (.int .i64 dy) := fun w' h => h.cellOf d1
      go_cut [10] (fun s wx => (∃ B, s = .pointer (some ⟨B, 0, none⟩) ∧ w.heap.size + 1 + 1 < B ∧ Box wx B [.int .i64 (M.x + E), .int .i64 (M.y - S)]) ∧ Ext w6 wx)
      case first =>
        clear m0 m1 m2 m3 m4 d0 d1
        refine wp_region_held_drew (S := fun w' => Ext w6 w') (by kernel_rfl) (by (try dsimp only); exact Ext.drew (Ext.refl w6)) (fun hHeld => ?_)
        have hE : Ext w6 w6.drew := Ext.drew (Ext.refl w6)
        obtain ⟨V0, hV0⟩ : ∃ V0, V0 = w6.drew := ⟨_, rfl⟩
        rw [← hV0] at hE hHeld ⊢
        clear hV0
        refine Ord.K 0 37 ?_; refine Ord.K 3 40 ?_; refine Ord.K 5 42 ?_; refine Ord.K 7 44 ?_; refine Ord.K 10 47 ?_; refine Ord.K 13 50 ?_; refine Ord.K 15 52 ?_; refine Ord.K 17 54 ?_; refine Ord.K 1 38 ?_; refine Ord.K 4 41 ?_; refine Ord.K 11 48 ?_; refine Ord.K 14 51 ?_; refine Ord.K 2 39 ?_; refine Ord.K 6 43 ?_; refine Ord.K 12 49 ?_; refine Ord.K 16 53 ?_
        refine wpAnyH_ready (rs := [8, 21]) (by kernel_rfl) (by simp) ?_
        refine (AllReadyH.cons rfl (fun K hK => ?_) (AllReadyH.cons rfl (fun K hK => ?_) AllReadyH.nil))
        · go_simp
          go_at_call 129
          refine (FE.out _).mono ?_
          rintro e V1 ⟨rfl, hy⟩
          go_wp2_with fail
          have zy := Ext.size hy
          have hE' := hE.trans hy
          refine hK.out _ _ hE' (fun hHeld => ?_)
          clear hK K
          (try simp only [Act.put, Ord.a, Ord.b, Ord.c])
          replace hE := hE'
          clear hE' hy
          refine Ord.K 9 46 ?_
          refine wpAnyH_ready (rs := [18, 21]) (by kernel_rfl) (by simp) ?_
          refine (AllReadyH.cons rfl (fun K hK => ?_) (AllReadyH.cons rfl (fun K hK => ?_) AllReadyH.nil))
          · go_simp
            go_at_call 129
            refine (FS.out _).mono ?_
            rintro e V2 ⟨rfl, hy⟩
            go_wp2_with fail
            have zy := Ext.size hy
            have hE' := hE.trans hy
            refine hK.out _ _ hE' (fun hHeld => ?_)
            clear hK K
            (try simp only [Act.put, Ord.a, Ord.b, Ord.c])
            replace hE := hE'
            clear hE' hy
            refine Ord.K 19 56 ?_; refine Ord.K 20 57 ?_
            refine wpAnyH_ready (rs := [21]) (by kernel_rfl) (by simp) ?_
            refine (AllReadyH.cons rfl (fun K hK => ?_) AllReadyH.nil)
            go_simp
            have hy : Ext V2 (V2.alloc (.cells #[.int .i64 0, .int .i64 0] 25)) := (Ext.refl V2).alloc _
            have hE' := hE.trans hy
            refine hK.out _ _ hE' (fun hHeld => ?_)
            clear hK K
            (try simp only [Act.put, Ord.a, Ord.b, Ord.c])
            have P21 : Box (V2.alloc (.cells #[.int .i64 0, .int .i64 0] 25)) V2.heap.size [.int .i64 0, .int .i64 0] := Box.new (vs := [.int .i64 0, .int .i64 0]) rfl
            have z21 := Ext.size hE
            have y21 : V2.heap.size < (V2.alloc (.cells #[.int .i64 0, .int .i64 0] 25)).heap.size := by simp
            replace hE := hE'
            clear hE' hy
            generalize V2.alloc (.cells #[.int .i64 0, .int .i64 0] 25) = V3 at *
            refine wpAnyH_ready (rs := [22]) (by kernel_rfl) (by simp) ?_
            refine (AllReadyH.cons rfl (fun K hK => ?_) AllReadyH.nil)
            obtain ⟨⟨r0, r1⟩, r2, r3⟩ := P21.two
            go_simp
            have hE' : Ext w6 ((V3.setCell ⟨V2.heap.size, 0, none⟩ (.int .i64 (M.x + E))).setCell ⟨V2.heap.size, 1, none⟩ (.int .i64 (M.y - S))) := ((hE.setNew (by first | omega | (simp; omega) | simp) _).setNew (by first | omega | (simp; omega) | simp) _)
            refine hK.out _ _ hE' (fun hHeld => ?_)
            clear hK K r0 r1 r2 r3
            (try simp only [Act.put, Ord.a, Ord.b, Ord.c])
            replace P21 := P21.set2 (u := .int .i64 (M.x + E)) (v := .int .i64 (M.y - S))
            replace hE := hE'
            clear hE'
            generalize ((V3.setCell ⟨V2.heap.size, 0, none⟩ (.int .i64 (M.x + E))).setCell ⟨V2.heap.size, 1, none⟩ (.int .i64 (M.y - S))) = V4 at *
            refine wpAnyH_done (by kernel_rfl) ?_ _
            go_wp2_with fail; go_meet; exact ⟨⟨_, rfl, by omega, P21⟩, hE⟩
          · go_simp
            have hy : Ext V1 (V1.alloc (.cells #[.int .i64 0, .int .i64 0] 25)) := (Ext.refl V1).alloc _
            have hE' := hE.trans hy
            refine hK.out _ _ hE' (fun hHeld => ?_)
            clear hK K
            (try simp only [Act.put, Ord.a, Ord.b, Ord.c])
            have P21 : Box (V1.alloc (.cells #[.int .i64 0, .int .i64 0] 25)) V1.heap.size [.int .i64 0, .int .i64 0] := Box.new (vs := [.int .i64 0, .int .i64 0]) rfl
            have z21 := Ext.size hE
            have y21 : V1.heap.size < (V1.alloc (.cells #[.int .i64 0, .int .i64 0] 25)).heap.size := by simp
            replace hE := hE'
            clear hE' hy
            generalize V1.alloc (.cells #[.int .i64 0, .int .i64 0] 25) = V2 at *
            refine wpAnyH_ready (rs := [18]) (by kernel_rfl) (by simp) ?_
            refine (AllReadyH.cons rfl (fun K hK => ?_) AllReadyH.nil)
            go_simp
            go_at_call 129
            refine (FS.out _).mono ?_
            rintro e V3 ⟨rfl, hy⟩
            go_wp2_with fail
            have zy := Ext.size hy
            have hE' := hE.trans hy
            refine hK.out _ _ hE' (fun hHeld => ?_)
            clear hK K
            (try simp only [Act.put, Ord.a, Ord.b, Ord.c])
            replace P21 := P21.ext hy
            replace hE := hE'
            clear hE' hy
            refine Ord.K 19 56 ?_; refine Ord.K 20 57 ?_
            refine wpAnyH_ready (rs := [22]) (by kernel_rfl) (by simp) ?_
            refine (AllReadyH.cons rfl (fun K hK => ?_) AllReadyH.nil)
            obtain ⟨⟨r0, r1⟩, r2, r3⟩ := P21.two
            go_simp
            have hE' : Ext w6 ((V3.setCell ⟨V1.heap.size, 0, none⟩ (.int .i64 (M.x + E))).setCell ⟨V1.heap.size, 1, none⟩ (.int .i64 (M.y - S))) := ((hE.setNew (by first | omega | (simp; omega) | simp) _).setNew (by first | omega | (simp; omega) | simp) _)
            refine hK.out _ _ hE' (fun hHeld => ?_)
            clear hK K r0 r1 r2 r3
            (try simp only [Act.put, Ord.a, Ord.b, Ord.c])
            replace P21 := P21.set2 (u := .int .i64 (M.x + E)) (v := .int .i64 (M.y - S))
            replace hE := hE'
            clear hE'
            generalize ((V3.setCell ⟨V1.heap.size, 0, none⟩ (.int .i64 (M.x + E))).setCell ⟨V1.heap.size, 1, none⟩ (.int .i64 (M.y - S))) = V4 at *
            refine wpAnyH_done (by kernel_rfl) ?_ _
            go_wp2_with fail; go_meet; exact ⟨⟨_, rfl, by omega, P21⟩, hE⟩
        · go_simp
          have hy : Ext V0 (V0.alloc (.cells #[.int .i64 0, .int .i64 0] 25)) := (Ext.refl V0).alloc _
          have hE' := hE.trans hy
          refine hK.out _ _ hE' (fun hHeld => ?_)
          clear hK K
          (try simp only [Act.put, Ord.a, Ord.b, Ord.c])
          have P21 : Box (V0.alloc (.cells #[.int .i64 0, .int .i64 0] 25)) V0.heap.size [.int .i64 0, .int .i64 0] := Box.new (vs := [.int .i64 0, .int .i64 0]) rfl
          have z21 := Ext.size hE
          have y21 : V0.heap.size < (V0.alloc (.cells #[.int .i64 0, .int .i64 0] 25)).heap.size := by simp
          replace hE := hE'
          clear hE' hy
          generalize V0.alloc (.cells #[.int .i64 0, .int .i64 0] 25) = V1 at *
          refine wpAnyH_ready (rs := [8]) (by kernel_rfl) (by simp) ?_
          refine (AllReadyH.cons rfl (fun K hK => ?_) AllReadyH.nil)
          go_simp
          go_at_call 129
          refine (FE.out _).mono ?_
          rintro e V2 ⟨rfl, hy⟩
          go_wp2_with fail
          have zy := Ext.size hy
          have hE' := hE.trans hy
          refine hK.out _ _ hE' (fun hHeld => ?_)
          clear hK K
          (try simp only [Act.put, Ord.a, Ord.b, Ord.c])
          replace P21 := P21.ext hy
          replace hE := hE'
          clear hE' hy
          refine Ord.K 9 46 ?_
          refine wpAnyH_ready (rs := [18]) (by kernel_rfl) (by simp) ?_
          refine (AllReadyH.cons rfl (fun K hK => ?_) AllReadyH.nil)
          go_simp
          go_at_call 129
          refine (FS.out _).mono ?_
          rintro e V3 ⟨rfl, hy⟩
          go_wp2_with fail
          have zy := Ext.size hy
          have hE' := hE.trans hy
          refine hK.out _ _ hE' (fun hHeld => ?_)
          clear hK K
          (try simp only [Act.put, Ord.a, Ord.b, Ord.c])
          replace P21 := P21.ext hy
          replace hE := hE'
          clear hE' hy
          refine Ord.K 19 56 ?_; refine Ord.K 20 57 ?_
          refine wpAnyH_ready (rs := [22]) (by kernel_rfl) (by simp) ?_
          refine (AllReadyH.cons rfl (fun K hK => ?_) AllReadyH.nil)
          obtain ⟨⟨r0, r1⟩, r2, r3⟩ := P21.two
          go_simp
          have hE' : Ext w6 ((V3.setCell ⟨V0.heap.size, 0, none⟩ (.int .i64 (M.x + E))).setCell ⟨V0.heap.size, 1, none⟩ (.int .i64 (M.y - S))) := ((hE.setNew (by first | omega | (simp; omega) | simp) _).setNew (by first | omega | (simp; omega) | simp) _)
          refine hK.out _ _ hE' (fun hHeld => ?_)
          clear hK K r0 r1 r2 r3
          (try simp only [Act.put, Ord.a, Ord.b, Ord.c])
          replace P21 := P21.set2 (u := .int .i64 (M.x + E)) (v := .int .i64 (M.y - S))
          replace hE := hE'
          clear hE'
          generalize ((V3.setCell ⟨V0.heap.size, 0, none⟩ (.int .i64 (M.x + E))).setCell ⟨V0.heap.size, 1, none⟩ (.int .i64 (M.y - S))) = V4 at *
          refine wpAnyH_done (by kernel_rfl) ?_ _
          go_wp2_with fail; go_meet; exact ⟨⟨_, rfl, by omega, P21⟩, hE⟩
      case rest =>
        obtain ⟨⟨Bq, rfl, hBq, Pq⟩, X7⟩ := hcut
        obtain ⟨⟨g0, g1⟩, _⟩ := Pq.two
        replace m0 := X7.cellOf m0
        replace m1 := X7.cellOf m1
        replace m2 := X7.cellOf m2
        replace m3 := X7.cellOf m3
        have X8 := X6.trans X7
        have z8 := Ext.size X8
        have k1 : ∀ A, (wc.alloc A).cell? ⟨w.heap.size + 1 + 1, 1, none⟩ = some (.int .i64 M.x) := fun A => ((Ext.refl wc).alloc A).cellOf m1
        have k2 : ∀ A, (wc.alloc A).cell? ⟨w.heap.size + 1 + 1, 2, none⟩ = some (.int .i64 M.y) := fun A => ((Ext.refl wc).alloc A).cellOf m2
        have k3 : ∀ A, (wc.alloc A).cell? ⟨w.heap.size + 1 + 1, 3, none⟩ = some (.int .i64 _) := fun A => ((Ext.refl wc).alloc A).cellOf m3
        have k4 : ∀ A, (wc.alloc A).cell? ⟨Bq, 0, none⟩ = some (.int .i64 (M.x + E)) := fun A => ((Ext.refl wc).alloc A).cellOf g0
        have k5 : ∀ A, (wc.alloc A).cell? ⟨Bq, 1, none⟩ = some (.int .i64 (M.y - S)) := fun A => ((Ext.refl wc).alloc A).cellOf g1
        clear em0 em1 em2 em3 ed0 ed1 d0 d1 m4
        go_upto_region 11 with fail
        have n8 : wc.heap.size ≠ w.heap.size + 1 := by omega
        have S0 : ResB W1 (w.heap.size + 1) 4 wc.heap.size [.int .i64 M.x, .int .i64 M.y, .int .i64 (M.x + E), .int .i64 (M.y - S)] (wc.alloc (.cells #[.int .i64 M.x, .int .i64 M.y, .int .i64 (M.x + E), .int .i64 (M.y - S)] 27)) :=
          ⟨⟨X13.out.trans (X8.alloc _), by omega, fun j hj => by
            have q := (BL.out.ext (X8.alloc (.cells #[.int .i64 M.x, .int .i64 M.y, .int .i64 (M.x + E), .int .i64 (M.y - S)] 27))) j
            match j, hj with
            | 0, _ => exact ⟨_, q _ rfl⟩
            | 1, _ => exact ⟨_, q _ rfl⟩
            | 2, _ => exact ⟨_, q _ rfl⟩
            | 3, _ => exact ⟨_, q _ rfl⟩⟩, n8, Box.new4 rfl⟩
        clear k1 k2 k3 k4 k5
        generalize wc.alloc (.cells #[.int .i64 M.x, .int .i64 M.y, .int .i64 (M.x + E), .int .i64 (M.y - S)] 27) = V at *
        have ea : ∀ w', ResB W1 (w.heap.size + 1) 4 wc.heap.size [.int .i64 M.x, .int .i64 M.y, .int .i64 (M.x + E), .int .i64 (M.y - S)] w' → w'.cell? ⟨wc.heap.size, 0, none⟩ = some (.int .i64 M.x) := fun w' h => h.2.2.four.1.1
        have eb : ∀ w', ResB W1 (w.heap.size + 1) 4 wc.heap.size [.int .i64 M.x, .int .i64 M.y, .int .i64 (M.x + E), .int .i64 (M.y - S)] w' → w'.cell? ⟨wc.heap.size, 1, none⟩ = some (.int .i64 M.y) := fun w' h => h.2.2.four.1.2.1
        have ec : ∀ w', ResB W1 (w.heap.size + 1) 4 wc.heap.size [.int .i64 M.x, .int .i64 M.y, .int .i64 (M.x + E), .int .i64 (M.y - S)] w' → w'.cell? ⟨wc.heap.size, 2, none⟩ = some (.int .i64 (M.x + E)) := fun w' h => h.2.2.four.1.2.2.1
        have ee : ∀ w', ResB W1 (w.heap.size + 1) 4 wc.heap.size [.int .i64 M.x, .int .i64 M.y, .int .i64 (M.x + E), .int .i64 (M.y - S)] w' → w'.cell? ⟨wc.heap.size, 3, none⟩ = some (.int .i64 (M.y - S)) := fun w' h => h.2.2.four.1.2.2.2
        refine wp_region_held_drew (S := (ResB W1 (w.heap.size + 1) 4 wc.heap.size [.int .i64 M.x, .int .i64 M.y, .int .i64 (M.x + E), .int .i64 (M.y - S)])) (by kernel_rfl) (by (try dsimp only); first | go_keep | exact (Ext.refl _).drew | exact Res.new2.drew | exact Res.new4.drew | exact ResB.drew (by assumption) | exact ResC.drew (by assumption) | assumption | exact Ext.drew (by assumption) | exact Res.drew (by assumption)) (fun hHeld => ?_)
        refine Ord.K 0 69 ?_
        refine Ord.K 1 70 ?_
        (refine wpAnyH_ready (rs := [2]) (by kernel_rfl) (by simp) ?_; refine AllReadyH.cons rfl (fun K hK => ?_) AllReadyH.nil; go_simp; (go_at_call 140; refine (isLine_spec _ _ _ _ _).mono ?_; rintro e w7 ⟨rfl, hy⟩); go_wp2_with fail; (refine hK.out _ _ (by first | assumption | exact Ext.trans (by assumption) hy | exact Res.ext (by assumption) hy | exact ResB.ext (by assumption) hy | exact ResC.ext (by assumption) hy | (go_split_ands; (repeat' apply And.intro) <;> exact Ext.cellOf hy (by assumption))) (fun hHeld => ?_)); clear hK K; (try simp only [Act.put, Ord.a, Ord.b, Ord.c]))
        (((first | refine Exists.elim (Res.four hHeld) (fun rx rh => ?_) | refine Exists.elim (Res.four hHeld.1) (fun rx rh => ?_)); refine Exists.elim rh (fun ry rh => ?_); refine Exists.elim rh (fun rz rh => ?_); refine Exists.elim rh (fun ru rb => ?_); have r0 := rb.four.1.1; have r1 := rb.four.1.2.1; have r2 := rb.four.1.2.2.1; have r3 := rb.four.1.2.2.2; have r4 := rb.four.2.1; have r5 := rb.four.2.2.1; have r6 := rb.four.2.2.2.1; have r7 := rb.four.2.2.2.2; clear rh); refine wpAnyH_ready (rs := [3]) (by kernel_rfl) (by simp) ?_; refine AllReadyH.cons rfl (fun K hK => ?_) AllReadyH.nil; go_simp; (refine hK.out _ _ (by with_reducible exact ResB.set (ResB.set (ResB.set (ResB.set hHeld _ _) _ _) _ _) _ _) (fun hHeld => ?_)); clear hK K; (try simp only [Act.put, Ord.a, Ord.b, Ord.c]))
        refine Ord.K 4 5 ?_
        refine wpAnyH_done (by kernel_rfl) ?_ _
        go_wp2
        rw [HR2.out, HB.out]
        exact ll_done (l := ⟨M.x, M.y, M.x + E, M.y - S⟩) (rb.set4 (a := .int .i64 M.x) (b := .int .i64 M.y) (c := .int .i64 (M.x + E)) (d := .int .i64 (M.y - S))) (X1.out.trans hHeld.1.1) rfl rfl
    · skip
      obtain ⟨a1, a2⟩ := mul_bd 2000000 50000 e1 (show -50000 ≤ -(10 * M.z) ∧ -(10 * M.z) ≤ 50000 by omega)
      obtain ⟨b1, b2⟩ := mul_bd 2000000 50000 e0 (show -50000 ≤ -(10 * M.z) ∧ -(10 * M.z) ≤ 50000 by omega)
      simp only [Int.reduceMul, Int.reduceNeg] at a1 a2 b1 b2
      obtain ⟨c1, c2⟩ := flo_bd n1 100000000000 a1 a2
      obtain ⟨d3, d4⟩ := flo_bd n1 100000000000 b1 b2
      have FE := Lib.hid (fun w => floorE (dy * (-(10 * M.z))) N w n1 (by omega) (by omega))
      have FS := Lib.hid (fun w => floorE (dx * (-(10 * M.z))) N w n1 (by omega) (by omega))
      obtain ⟨E, hE⟩ : ∃ E, E = flo (dy * (-(10 * M.z))) N := ⟨_, rfl⟩
      obtain ⟨S, hS⟩ : ∃ S, S = flo (dx * (-(10 * M.z))) N := ⟨_, rfl⟩
      rw [← hE] at FE c1 c2
      rw [← hS] at FS d3 d4
      unfold Co at mx my
      have T1 : IntKind.i64.wrap (M.x + E) = M.x + E := IntWalk.i64_in _ (by omega)
      have T2 : IntKind.i64.wrap (M.y - S) = M.y - S := IntWalk.i64_in _ (by omega)
      have T3 : IntKind.i64.wrap (dy * (-(10 * M.z))) = dy * (-(10 * M.z)) := IntWalk.i64_in _ (by omega)
      have T4 : IntKind.i64.wrap (dx * (-(10 * M.z))) = dx * (-(10 * M.z)) := IntWalk.i64_in _ (by omega)
      have T5 : IntKind.i64.wrap (10 * M.z) = 10 * M.z := IntWalk.i64_in _ (by omega)
      have T6 : IntKind.i64.wrap (-(10 * M.z)) = -(10 * M.z) := IntWalk.i64_in _ (by omega)
      have HR2 := Lib.hid (show rlL l k ms i = (⟨M.x + E, M.y - S, M.x, M.y⟩ : L4) by rw [HR.out, rdL_star hs, ← X0 (-(10 * M.z)), ← Y0 (-(10 * M.z)), hE, hS])
      replace HB := Lib.hid (show rlB l k ms i = sgB (M.x + E) (M.y - S) M.x M.y by rw [HB.out, HR2.out])
      clear hE hS X0 Y0
      clear HR
      have m0 := em0 _ X6
      have m1 := em1 _ X6
      have m2 := em2 _ X6
      have m3 := em3 _ X6
      have m4 := em4 _ X6
      rw [hs] at m3
      clear ec0 ec1 ec2 ec3 ec4 ec5 ec6 ec7 ec8 em0 em1 em2 em3 em4
      go_upto_region 7 with fail
      have em0 : ∀ w', Ext w6 w' → w'.cell? ⟨w.heap.size + 1 + 1, 0, none⟩ = some (.string M.n) := fun w' h => h.cellOf m0
      have em1 : ∀ w', Ext w6 w' → w'.cell? ⟨w.heap.size + 1 + 1, 1, none⟩ = some (.int .i64 M.x) := fun w' h => h.cellOf m1
      have em2 : ∀ w', Ext w6 w' → w'.cell? ⟨w.heap.size + 1 + 1, 2, none⟩ = some (.int .i64 M.y) := fun w' h => h.cellOf m2
      have em3 : ∀ w', Ext w6 w' → w'.cell? ⟨w.heap.size + 1 + 1, 3, none⟩ = some (.int .i64 2) := fun w' h => h.cellOf m3
      have ed0 : ∀ w', Ext w6 w' → w'.cell? ⟨B7, 0, none⟩ = some (.int .i64 dx) := fun w' h => h.cellOf d0
      have ed1 : ∀ w', Ext w6 w' → w'.cell? ⟨B7, 1, none⟩ = some (.int .i64 dy) := fun w' h => h.cellOf d1
      go_cut [10] (fun s wx => (∃ B, s = .pointer (some ⟨B, 0, none⟩) ∧ w.heap.size + 1 + 1 < B ∧ Box wx B [.int .i64 (M.x + E), .int .i64 (M.y - S)]) ∧ Ext w6 wx)
      case first =>
        clear m0 m1 m2 m3 m4 d0 d1
        refine wp_region_held_drew (S := fun w' => Ext w6 w') (by kernel_rfl) (by (try dsimp only); exact Ext.drew (Ext.refl w6)) (fun hHeld => ?_)
        have hE : Ext w6 w6.drew := Ext.drew (Ext.refl w6)
        obtain ⟨V0, hV0⟩ : ∃ V0, V0 = w6.drew := ⟨_, rfl⟩
        rw [← hV0] at hE hHeld ⊢
        clear hV0
        refine Ord.K 0 37 ?_; refine Ord.K 3 40 ?_; refine Ord.K 5 42 ?_; refine Ord.K 7 44 ?_; refine Ord.K 10 47 ?_; refine Ord.K 13 50 ?_; refine Ord.K 15 52 ?_; refine Ord.K 17 54 ?_; refine Ord.K 1 38 ?_; refine Ord.K 4 41 ?_; refine Ord.K 11 48 ?_; refine Ord.K 14 51 ?_; refine Ord.K 2 39 ?_; refine Ord.K 6 43 ?_; refine Ord.K 12 49 ?_; refine Ord.K 16 53 ?_
        refine wpAnyH_ready (rs := [8, 21]) (by kernel_rfl) (by simp) ?_
        refine (AllReadyH.cons rfl (fun K hK => ?_) (AllReadyH.cons rfl (fun K hK => ?_) AllReadyH.nil))
        · go_simp
          go_at_call 129
          refine (FE.out _).mono ?_
          rintro e V1 ⟨rfl, hy⟩
          go_wp2_with fail
          have zy := Ext.size hy
          have hE' := hE.trans hy
          refine hK.out _ _ hE' (fun hHeld => ?_)
          clear hK K
          (try simp only [Act.put, Ord.a, Ord.b, Ord.c])
          replace hE := hE'
          clear hE' hy
          refine Ord.K 9 46 ?_
          refine wpAnyH_ready (rs := [18, 21]) (by kernel_rfl) (by simp) ?_
          refine (AllReadyH.cons rfl (fun K hK => ?_) (AllReadyH.cons rfl (fun K hK => ?_) AllReadyH.nil))
          · go_simp
            go_at_call 129
            refine (FS.out _).mono ?_
            rintro e V2 ⟨rfl, hy⟩
            go_wp2_with fail
            have zy := Ext.size hy
            have hE' := hE.trans hy
            refine hK.out _ _ hE' (fun hHeld => ?_)
            clear hK K
            (try simp only [Act.put, Ord.a, Ord.b, Ord.c])
            replace hE := hE'
            clear hE' hy
            refine Ord.K 19 56 ?_; refine Ord.K 20 57 ?_
            refine wpAnyH_ready (rs := [21]) (by kernel_rfl) (by simp) ?_
            refine (AllReadyH.cons rfl (fun K hK => ?_) AllReadyH.nil)
            go_simp
            have hy : Ext V2 (V2.alloc (.cells #[.int .i64 0, .int .i64 0] 25)) := (Ext.refl V2).alloc _
            have hE' := hE.trans hy
            refine hK.out _ _ hE' (fun hHeld => ?_)
            clear hK K
            (try simp only [Act.put, Ord.a, Ord.b, Ord.c])
            have P21 : Box (V2.alloc (.cells #[.int .i64 0, .int .i64 0] 25)) V2.heap.size [.int .i64 0, .int .i64 0] := Box.new (vs := [.int .i64 0, .int .i64 0]) rfl
            have z21 := Ext.size hE
            have y21 : V2.heap.size < (V2.alloc (.cells #[.int .i64 0, .int .i64 0] 25)).heap.size := by simp
            replace hE := hE'
            clear hE' hy
            generalize V2.alloc (.cells #[.int .i64 0, .int .i64 0] 25) = V3 at *
            refine wpAnyH_ready (rs := [22]) (by kernel_rfl) (by simp) ?_
            refine (AllReadyH.cons rfl (fun K hK => ?_) AllReadyH.nil)
            obtain ⟨⟨r0, r1⟩, r2, r3⟩ := P21.two
            go_simp
            have hE' : Ext w6 ((V3.setCell ⟨V2.heap.size, 0, none⟩ (.int .i64 (M.x + E))).setCell ⟨V2.heap.size, 1, none⟩ (.int .i64 (M.y - S))) := ((hE.setNew (by first | omega | (simp; omega) | simp) _).setNew (by first | omega | (simp; omega) | simp) _)
            refine hK.out _ _ hE' (fun hHeld => ?_)
            clear hK K r0 r1 r2 r3
            (try simp only [Act.put, Ord.a, Ord.b, Ord.c])
            replace P21 := P21.set2 (u := .int .i64 (M.x + E)) (v := .int .i64 (M.y - S))
            replace hE := hE'
            clear hE'
            generalize ((V3.setCell ⟨V2.heap.size, 0, none⟩ (.int .i64 (M.x + E))).setCell ⟨V2.heap.size, 1, none⟩ (.int .i64 (M.y - S))) = V4 at *
            refine wpAnyH_done (by kernel_rfl) ?_ _
            go_wp2_with fail; go_meet; exact ⟨⟨_, rfl, by omega, P21⟩, hE⟩
          · go_simp
            have hy : Ext V1 (V1.alloc (.cells #[.int .i64 0, .int .i64 0] 25)) := (Ext.refl V1).alloc _
            have hE' := hE.trans hy
            refine hK.out _ _ hE' (fun hHeld => ?_)
            clear hK K
            (try simp only [Act.put, Ord.a, Ord.b, Ord.c])
            have P21 : Box (V1.alloc (.cells #[.int .i64 0, .int .i64 0] 25)) V1.heap.size [.int .i64 0, .int .i64 0] := Box.new (vs := [.int .i64 0, .int .i64 0]) rfl
            have z21 := Ext.size hE
            have y21 : V1.heap.size < (V1.alloc (.cells #[.int .i64 0, .int .i64 0] 25)).heap.size := by simp
            replace hE := hE'
            clear hE' hy
            generalize V1.alloc (.cells #[.int .i64 0, .int .i64 0] 25) = V2 at *
            refine wpAnyH_ready (rs := [18]) (by kernel_rfl) (by simp) ?_
            refine (AllReadyH.cons rfl (fun K hK => ?_) AllReadyH.nil)
            go_simp
            go_at_call 129
            refine (FS.out _).mono ?_
            rintro e V3 ⟨rfl, hy⟩
            go_wp2_with fail
            have zy := Ext.size hy
            have hE' := hE.trans hy
            refine hK.out _ _ hE' (fun hHeld => ?_)
            clear hK K
            (try simp only [Act.put, Ord.a, Ord.b, Ord.c])
            replace P21 := P21.ext hy
            replace hE := hE'
            clear hE' hy
            refine Ord.K 19 56 ?_; refine Ord.K 20 57 ?_
            refine wpAnyH_ready (rs := [22]) (by kernel_rfl) (by simp) ?_
            refine (AllReadyH.cons rfl (fun K hK => ?_) AllReadyH.nil)
            obtain ⟨⟨r0, r1⟩, r2, r3⟩ := P21.two
            go_simp
            have hE' : Ext w6 ((V3.setCell ⟨V1.heap.size, 0, none⟩ (.int .i64 (M.x + E))).setCell ⟨V1.heap.size, 1, none⟩ (.int .i64 (M.y - S))) := ((hE.setNew (by first | omega | (simp; omega) | simp) _).setNew (by first | omega | (simp; omega) | simp) _)
            refine hK.out _ _ hE' (fun hHeld => ?_)
            clear hK K r0 r1 r2 r3
            (try simp only [Act.put, Ord.a, Ord.b, Ord.c])
            replace P21 := P21.set2 (u := .int .i64 (M.x + E)) (v := .int .i64 (M.y - S))
            replace hE := hE'
            clear hE'
            generalize ((V3.setCell ⟨V1.heap.size, 0, none⟩ (.int .i64 (M.x + E))).setCell ⟨V1.heap.size, 1, none⟩ (.int .i64 (M.y - S))) = V4 at *
            refine wpAnyH_done (by kernel_rfl) ?_ _
            go_wp2_with fail; go_meet; exact ⟨⟨_, rfl, by omega, P21⟩, hE⟩
        · go_simp
          have hy : Ext V0 (V0.alloc (.cells #[.int .i64 0, .int .i64 0] 25)) := (Ext.refl V0).alloc _
          have hE' := hE.trans hy
          refine hK.out _ _ hE' (fun hHeld => ?_)
          clear hK K
          (try simp only [Act.put, Ord.a, Ord.b, Ord.c])
          have P21 : Box (V0.alloc (.cells #[.int .i64 0, .int .i64 0] 25)) V0.heap.size [.int .i64 0, .int .i64 0] := Box.new (vs := [.int .i64 0, .int .i64 0]) rfl
          have z21 := Ext.size hE
          have y21 : V0.heap.size < (V0.alloc (.cells #[.int .i64 0, .int .i64 0] 25)).heap.size := by simp
          replace hE := hE'
          clear hE' hy
          generalize V0.alloc (.cells #[.int .i64 0, .int .i64 0] 25) = V1 at *
          refine wpAnyH_ready (rs := [8]) (by kernel_rfl) (by simp) ?_
          refine (AllReadyH.cons rfl (fun K hK => ?_) AllReadyH.nil)
          go_simp
          go_at_call 129
          refine (FE.out _).mono ?_
          rintro e V2 ⟨rfl, hy⟩
          go_wp2_with fail
          have zy := Ext.size hy
          have hE' := hE.trans hy
          refine hK.out _ _ hE' (fun hHeld => ?_)
          clear hK K
          (try simp only [Act.put, Ord.a, Ord.b, Ord.c])
          replace P21 := P21.ext hy
          replace hE := hE'
          clear hE' hy
          refine Ord.K 9 46 ?_
          refine wpAnyH_ready (rs := [18]) (by kernel_rfl) (by simp) ?_
          refine (AllReadyH.cons rfl (fun K hK => ?_) AllReadyH.nil)
          go_simp
          go_at_call 129
          refine (FS.out _).mono ?_
          rintro e V3 ⟨rfl, hy⟩
          go_wp2_with fail
          have zy := Ext.size hy
          have hE' := hE.trans hy
          refine hK.out _ _ hE' (fun hHeld => ?_)
          clear hK K
          (try simp only [Act.put, Ord.a, Ord.b, Ord.c])
          replace P21 := P21.ext hy
          replace hE := hE'
          clear hE' hy
          refine Ord.K 19 56 ?_; refine Ord.K 20 57 ?_
          refine wpAnyH_ready (rs := [22]) (by kernel_rfl) (by simp) ?_
          refine (AllReadyH.cons rfl (fun K hK => ?_) AllReadyH.nil)
          obtain ⟨⟨r0, r1⟩, r2, r3⟩ := P21.two
          go_simp
          have hE' : Ext w6 ((V3.setCell ⟨V0.heap.size, 0, none⟩ (.int .i64 (M.x + E))).setCell ⟨V0.heap.size, 1, none⟩ (.int .i64 (M.y - S))) := ((hE.setNew (by first | omega | (simp; omega) | simp) _).setNew (by first | omega | (simp; omega) | simp) _)
          refine hK.out _ _ hE' (fun hHeld => ?_)
          clear hK K r0 r1 r2 r3
          (try simp only [Act.put, Ord.a, Ord.b, Ord.c])
          replace P21 := P21.set2 (u := .int .i64 (M.x + E)) (v := .int .i64 (M.y - S))
          replace hE := hE'
          clear hE'
          generalize ((V3.setCell ⟨V0.heap.size, 0, none⟩ (.int .i64 (M.x + E))).setCell ⟨V0.heap.size, 1, none⟩ (.int .i64 (M.y - S))) = V4 at *
          refine wpAnyH_done (by kernel_rfl) ?_ _
          go_wp2_with fail; go_meet; exact ⟨⟨_, rfl, by omega, P21⟩, hE⟩
      case rest =>
        obtain ⟨⟨Bq, rfl, hBq, Pq⟩, X7⟩ := hcut
        obtain ⟨⟨g0, g1⟩, _⟩ := Pq.two
        replace m0 := X7.cellOf m0
        replace m1 := X7.cellOf m1
        replace m2 := X7.cellOf m2
        replace m3 := X7.cellOf m3
        have X8 := X6.trans X7
        have z8 := Ext.size X8
        have k1 : ∀ A, (wc.alloc A).cell? ⟨w.heap.size + 1 + 1, 1, none⟩ = some (.int .i64 M.x) := fun A => ((Ext.refl wc).alloc A).cellOf m1
        have k2 : ∀ A, (wc.alloc A).cell? ⟨w.heap.size + 1 + 1, 2, none⟩ = some (.int .i64 M.y) := fun A => ((Ext.refl wc).alloc A).cellOf m2
        have k3 : ∀ A, (wc.alloc A).cell? ⟨w.heap.size + 1 + 1, 3, none⟩ = some (.int .i64 _) := fun A => ((Ext.refl wc).alloc A).cellOf m3
        have k4 : ∀ A, (wc.alloc A).cell? ⟨Bq, 0, none⟩ = some (.int .i64 (M.x + E)) := fun A => ((Ext.refl wc).alloc A).cellOf g0
        have k5 : ∀ A, (wc.alloc A).cell? ⟨Bq, 1, none⟩ = some (.int .i64 (M.y - S)) := fun A => ((Ext.refl wc).alloc A).cellOf g1
        clear em0 em1 em2 em3 ed0 ed1 d0 d1 m4
        go_upto_region 11 with fail
        have n8 : wc.heap.size ≠ w.heap.size + 1 := by omega
        have S0 : ResB W1 (w.heap.size + 1) 4 wc.heap.size [.int .i64 (M.x + E), .int .i64 (M.y - S), .int .i64 M.x, .int .i64 M.y] (wc.alloc (.cells #[.int .i64 (M.x + E), .int .i64 (M.y - S), .int .i64 M.x, .int .i64 M.y] 27)) :=
          ⟨⟨X13.out.trans (X8.alloc _), by omega, fun j hj => by
            have q := (BL.out.ext (X8.alloc (.cells #[.int .i64 (M.x + E), .int .i64 (M.y - S), .int .i64 M.x, .int .i64 M.y] 27))) j
            match j, hj with
            | 0, _ => exact ⟨_, q _ rfl⟩
            | 1, _ => exact ⟨_, q _ rfl⟩
            | 2, _ => exact ⟨_, q _ rfl⟩
            | 3, _ => exact ⟨_, q _ rfl⟩⟩, n8, Box.new4 rfl⟩
        clear k1 k2 k3 k4 k5
        generalize wc.alloc (.cells #[.int .i64 (M.x + E), .int .i64 (M.y - S), .int .i64 M.x, .int .i64 M.y] 27) = V at *
        have ea : ∀ w', ResB W1 (w.heap.size + 1) 4 wc.heap.size [.int .i64 (M.x + E), .int .i64 (M.y - S), .int .i64 M.x, .int .i64 M.y] w' → w'.cell? ⟨wc.heap.size, 0, none⟩ = some (.int .i64 (M.x + E)) := fun w' h => h.2.2.four.1.1
        have eb : ∀ w', ResB W1 (w.heap.size + 1) 4 wc.heap.size [.int .i64 (M.x + E), .int .i64 (M.y - S), .int .i64 M.x, .int .i64 M.y] w' → w'.cell? ⟨wc.heap.size, 1, none⟩ = some (.int .i64 (M.y - S)) := fun w' h => h.2.2.four.1.2.1
        have ec : ∀ w', ResB W1 (w.heap.size + 1) 4 wc.heap.size [.int .i64 (M.x + E), .int .i64 (M.y - S), .int .i64 M.x, .int .i64 M.y] w' → w'.cell? ⟨wc.heap.size, 2, none⟩ = some (.int .i64 M.x) := fun w' h => h.2.2.four.1.2.2.1
        have ee : ∀ w', ResB W1 (w.heap.size + 1) 4 wc.heap.size [.int .i64 (M.x + E), .int .i64 (M.y - S), .int .i64 M.x, .int .i64 M.y] w' → w'.cell? ⟨wc.heap.size, 3, none⟩ = some (.int .i64 M.y) := fun w' h => h.2.2.four.1.2.2.2
        refine wp_region_held_drew (S := (ResB W1 (w.heap.size + 1) 4 wc.heap.size [.int .i64 (M.x + E), .int .i64 (M.y - S), .int .i64 M.x, .int .i64 M.y])) (by kernel_rfl) (by (try dsimp only); first | go_keep | exact (Ext.refl _).drew | exact Res.new2.drew | exact Res.new4.drew | exact ResB.drew (by assumption) | exact ResC.drew (by assumption) | assumption | exact Ext.drew (by assumption) | exact Res.drew (by assumption)) (fun hHeld => ?_)
        refine Ord.K 0 69 ?_
        refine Ord.K 1 70 ?_
        (refine wpAnyH_ready (rs := [2]) (by kernel_rfl) (by simp) ?_; refine AllReadyH.cons rfl (fun K hK => ?_) AllReadyH.nil; go_simp; (go_at_call 140; refine (isLine_spec _ _ _ _ _).mono ?_; rintro e w7 ⟨rfl, hy⟩); go_wp2_with fail; (refine hK.out _ _ (by first | assumption | exact Ext.trans (by assumption) hy | exact Res.ext (by assumption) hy | exact ResB.ext (by assumption) hy | exact ResC.ext (by assumption) hy | (go_split_ands; (repeat' apply And.intro) <;> exact Ext.cellOf hy (by assumption))) (fun hHeld => ?_)); clear hK K; (try simp only [Act.put, Ord.a, Ord.b, Ord.c]))
        (((first | refine Exists.elim (Res.four hHeld) (fun rx rh => ?_) | refine Exists.elim (Res.four hHeld.1) (fun rx rh => ?_)); refine Exists.elim rh (fun ry rh => ?_); refine Exists.elim rh (fun rz rh => ?_); refine Exists.elim rh (fun ru rb => ?_); have r0 := rb.four.1.1; have r1 := rb.four.1.2.1; have r2 := rb.four.1.2.2.1; have r3 := rb.four.1.2.2.2; have r4 := rb.four.2.1; have r5 := rb.four.2.2.1; have r6 := rb.four.2.2.2.1; have r7 := rb.four.2.2.2.2; clear rh); refine wpAnyH_ready (rs := [3]) (by kernel_rfl) (by simp) ?_; refine AllReadyH.cons rfl (fun K hK => ?_) AllReadyH.nil; go_simp; (refine hK.out _ _ (by with_reducible exact ResB.set (ResB.set (ResB.set (ResB.set hHeld _ _) _ _) _ _) _ _) (fun hHeld => ?_)); clear hK K; (try simp only [Act.put, Ord.a, Ord.b, Ord.c]))
        refine Ord.K 4 5 ?_
        refine wpAnyH_done (by kernel_rfl) ?_ _
        go_wp2
        rw [HR2.out, HB.out]
        exact ll_done (l := ⟨M.x + E, M.y - S, M.x, M.y⟩) (rb.set4 (a := .int .i64 (M.x + E)) (b := .int .i64 (M.y - S)) (c := .int .i64 M.x) (d := .int .i64 M.y)) (X1.out.trans hHeld.1.1) rfl rfl
end Go.Proofs.YtmlojndkpnhalaaGreat.Crs
namespace Go.Proofs.YtmlojndkpnhalaaGreat.Crs
open Go.ChangeShapes Go.WideShapes Go.ChangeAt Go.RowKit Go.PlainAid
open Go.Proofs.YtmlojndkpnhalaaGreat.Num Go.Proofs.YtmlojndkpnhalaaGreat.Kit Go.Proofs.YtmlojndkpnhalaaGreat.Pts Go.Proofs.YtmlojndkpnhalaaGreat.Seg Go.Proofs.YtmlojndkpnhalaaGreat.Div Go.Proofs.YtmlojndkpnhalaaGreat.Root Go.Proofs.YtmlojndkpnhalaaGreat.Rt
set_option linter.unusedVariables false
set_option linter.unusedSimpArgs false
def ln (ls : List L4) (i : Nat) : L4 := ls.getD i ⟨0, 0, 0, 0⟩
theorem ln_at {ls : List L4} {i : Nat} (h : i < ls.length) : ls[i]? = some (ln ls i) := by
  unfold ln; rw [List.getD_eq_getElem?_getD]; simp [h]
def cellsLs (ls : List L4) : List Value := ls.flatMap cellsL
theorem cellsLs_app (ls ks : List L4) : cellsLs (ls ++ ks) = cellsLs ls ++ cellsLs ks := by simp [cellsLs]
theorem cellsLs_one (l : L4) : cellsLs [l] = cellsL l := by simp [cellsLs]
theorem cellsLs_len (ls : List L4) : (cellsLs ls).length = ls.length * 4 := by
  induction ls with
  | nil => rfl
  | cons l ls ih => rw [show l :: ls = [l] ++ ls from rfl, cellsLs_app, List.length_append, ih, cellsLs_one]; simp; omega
theorem cellsLs_get : ∀ (ls : List L4) (i : Nat) (p : L4), ls[i]? = some p → (cellsLs ls)[i * 4]? = some (.int .i64 p.a) ∧ (cellsLs ls)[i * 4 + 1]? = some (.int .i64 p.b) ∧ (cellsLs ls)[i * 4 + 2]? = some (.int .i64 p.c) ∧ (cellsLs ls)[i * 4 + 3]? = some (.int .i64 p.d)
  | [], i, p, h => by simp at h
  | q :: ls, 0, p, h => by simp at h; subst h; simp [cellsLs]
  | q :: ls, i + 1, p, h => by
    have := cellsLs_get ls i p (by simpa using h)
    rw [show (i + 1) * 4 = 4 + i * 4 by omega]
    have e : cellsLs (q :: ls) = cellsL q ++ cellsLs ls := by simp [cellsLs]
    rw [e]
    refine ⟨?_, ?_, ?_, ?_⟩
    · rw [List.getElem?_append_right (by simp)]; simpa using this.1
    · rw [List.getElem?_append_right (by simp; omega), show 4 + i * 4 + 1 - (cellsL q).length = i * 4 + 1 by simp; omega]; exact this.2.1
    · rw [List.getElem?_append_right (by simp; omega), show 4 + i * 4 + 2 - (cellsL q).length = i * 4 + 2 by simp; omega]; exact this.2.2.1
    · rw [List.getElem?_append_right (by simp; omega), show 4 + i * 4 + 3 - (cellsL q).length = i * 4 + 3 by simp; omega]; exact this.2.2.2
def LAt (w : World) (b o : Nat) (p : L4) : Prop := w.cell? ⟨b, o, none⟩ = some (.int .i64 p.a) ∧ w.cell? ⟨b, o + 1, none⟩ = some (.int .i64 p.b) ∧ w.cell? ⟨b, o + 2, none⟩ = some (.int .i64 p.c) ∧ w.cell? ⟨b, o + 3, none⟩ = some (.int .i64 p.d)
theorem LAt.ext {w w' : World} {b o : Nat} {p : L4} (h : LAt w b o p) (k : Ext w w') : LAt w' b o p := ⟨k.cellOf h.1, k.cellOf h.2.1, k.cellOf h.2.2.1, k.cellOf h.2.2.2⟩
def Lxs (w : World) (a : Option Addr) (ls : List L4) : Prop := ls.length ≤ 1000 ∧ (ls = [] ∨ ∃ b off, a = some ⟨b, off, none⟩ ∧ ∀ i, i < ls.length → LAt w b (off + i * 4) (ln ls i))
theorem Lxs.ext {w w' : World} {a : Option Addr} {ls : List L4} (h : Lxs w a ls) (k : Ext w w') : Lxs w' a ls := by
  refine ⟨h.1, ?_⟩
  rcases h.2 with h | ⟨b, off, ha, h⟩
  · exact .inl h
  · exact .inr ⟨b, off, ha, fun i hi => (h i hi).ext k⟩
theorem Lxs.row {w : World} {a : Option Addr} {ls : List L4} (h : Lxs w a ls) (h0 : 0 < ls.length) : ∃ b off, a = some ⟨b, off, none⟩ ∧ ∀ i, i < ls.length → LAt w b (off + i * 4) (ln ls i) := by
  rcases h.2 with e | e
  · rw [e] at h0; simp at h0
  · exact e
def OwnL (w : World) (base : Nat) (v : Value) (ls : List L4) : Prop := w.ownsRow base 27 4 v ls.length (cellsLs ls)
theorem OwnL.ext {w w' : World} {base : Nat} {v : Value} {ls : List L4} (h : OwnL w base v ls) (k : Ext w w') : OwnL w' base v ls := row_ext h k
theorem OwnL.lxs {w : World} {base : Nat} {v : Value} {ls : List L4} (h : OwnL w base v ls) (hl : ls.length ≤ 1000) : ∃ a cap, v = .slice a ls.length cap ∧ Lxs w a ls := by
  rcases row_cases h with ⟨hv, hn⟩ | ⟨g, cap, hv, hc, hb, hC⟩
  · refine ⟨none, 0, by rw [hv, hn], hl, .inl (List.length_eq_zero_iff.1 hn)⟩
  · refine ⟨_, cap, hv, hl, .inr ⟨g, 0, rfl, fun i hi => ?_⟩⟩
    obtain ⟨q0, q1, q2, q3⟩ := cellsLs_get ls i _ (ln_at hi)
    unfold LAt
    rw [Nat.zero_add]
    exact ⟨(hC _ (by omega)).trans q0, (hC _ (by omega)).trans q1, (hC _ (by omega)).trans q2, (hC _ (by omega)).trans q3⟩
def rlS (l k : L4) (ms : List M5) (n : Nat) : List L4 := (List.range n).map (rlL l k ms)
theorem rlS_len (l k : L4) (ms : List M5) (n : Nat) : (rlS l k ms n).length = n := by simp [rlS]
theorem rlS_succ (l k : L4) (ms : List M5) (n : Nat) : rlS l k ms (n + 1) = rlS l k ms n ++ [rlL l k ms n] := by simp [rlS, List.range_succ]
theorem rlS_cells (l k : L4) (ms : List M5) (n : Nat) : cellsLs (rlS l k ms n) = rlC l k ms n := by simp [cellsLs, rlS, rlC, List.flatMap_map]
theorem rlS_get (l k : L4) (ms : List M5) (n i : Nat) (h : i < n) : ln (rlS l k ms n) i = rlL l k ms i := by
  unfold ln rlS
  rw [List.getD_eq_getElem?_getD, List.getElem?_map, List.getElem?_range h]; rfl
def stS (l k : L4) (ms : List M5) : List L4 := [l] ++ rlS l k ms ms.length ++ [k]
theorem stS_len (l k : L4) (ms : List M5) : (stS l k ms).length = ms.length + 2 := by simp [stS, rlS_len]
def lsB (l k : L4) (ms : List M5) : Bool := (List.range ms.length).all (rlB l k ms)
theorem ls_no {l k : L4} {ms : List M5} {i : Nat} (hi : i < ms.length) (h : rlB l k ms i = false) : lsB l k ms = false :=
  List.all_eq_false.2 ⟨i, by simpa using hi, by simp [h]⟩
theorem ls_all {l k : L4} {ms : List M5} (h : ∀ i, i < ms.length → rlB l k ms i = true) : lsB l k ms = true :=
  List.all_eq_true.2 fun i hi => h i (by simpa using hi)
theorem ls_yes {l k : L4} {ms : List M5} (h : lsB l k ms = true) : ∀ i, i < ms.length → rlB l k ms i = true :=
  fun i hi => List.all_eq_true.1 h i (by simpa using hi)
theorem st_ok {l k : L4} {ms : List M5} (hq : crB l k ms = true) (h : lsB l k ms = true) : ∀ p ∈ stS l k ms, sgB p.a p.b p.c p.d = true := by
  obtain ⟨h1, h2⟩ := cr_lines hq
  intro p hp
  unfold stS rlS at hp
  simp only [List.mem_append, List.mem_singleton, List.mem_map, List.mem_range] at hp
  rcases hp with (rfl | ⟨i, hi, rfl⟩) | rfl
  · exact h1
  · exact ls_yes h i hi
  · exact h2
theorem ret_vb {v : Value} {a b : Bool} (h : b = a) : Ending.returned (.tuple #[v, .bool a]) = .returned (.tuple #[v, .bool b]) := by rw [h]
def LinesS (w : World) (base : Nat) (l k : L4) (ms : List M5) (e : Ending) (w' : World) : Prop :=
  ∃ v, e = .returned (.tuple #[v, .bool (lsB l k ms)]) ∧ (lsB l k ms = true → OwnL w' base v (stS l k ms)) ∧ Ext w w'
def RelLns (wx : World) (b : Nat) (l k : L4) (ms : List M5) (o i : Value) (wr : World) : Prop :=
  ∃ j : Nat, i = .int .i64 j ∧ j ≤ ms.length ∧ (∀ x, x < j → rlB l k ms x = true) ∧ wr.ownsRow b 27 4 o (j + 1) (cellsLs ([l] ++ rlS l k ms j)) ∧ Ext wx wr
set_option maxRecDepth 100000 in
set_option maxHeartbeats 8000000 in
theorem l06Lines_spec (l k : L4) (a : Option Addr) (cap : Nat) (ms : List M5) (w : World) (hf : Mks w a ms) (hq : crB l k ms = true) :
    Calls Tryz.prog 77 #[CV l k (.slice a ms.length cap)] w (LinesS w w.heap.size l k ms) := by
  have h8 := cr_eight hq
  have KL := Lib.hid (fun (i : Nat) (hi : i < ms.length) w hf => l06Line_spec l k a cap ms i w hf hq hi)
  obtain ⟨W0, hW0⟩ : ∃ W0, W0 = w.alloc (.cells (cellsC l k (.slice a ms.length cap)).toArray 30) := ⟨_, rfl⟩
  have HW := Lib.hid (show Ext w W0 from hW0 ▸ (Ext.refl w).alloc _)
  have BB := Lib.hid (show Box W0 w.heap.size (cellsC l k (.slice a ms.length cap)) from hW0 ▸ Box.new rfl)
  have HF := Lib.hid (hf.ext HW.out)
  have O0 := Lib.hid (show (W0.alloc (.cells #[.int .i64 l.a, .int .i64 l.b, .int .i64 l.c, .int .i64 l.d] 27)).ownsRow W0.heap.size 27 4 (.slice (some ⟨W0.heap.size, 0, none⟩) 1 1) 1 (cellsLs ([l] ++ rlS l k ms 0)) from
    World.ownsRow_lit (base := W0.heap.size) (e := 27) (size := 4) W0 #[.int .i64 l.a, .int .i64 l.b, .int .i64 l.c, .int .i64 l.d] 1 (Nat.le_refl _) (by unfold maxLen; omega) (by simp))
  have X0 := Lib.hid ((Ext.refl W0).alloc (.cells #[.int .i64 l.a, .int .i64 l.b, .int .i64 l.c, .int .i64 l.d] 27))
  have zW : W0.heap.size = w.heap.size + 1 := by rw [hW0]; simp
  clear hf
  obtain ⟨i0, hin, hz0, hz1, hz2⟩ := info_parts lineInfo
  go_enter Tryz.func77, Tryz.ntmps77
  go_wp2
  rw [← hW0]
  rw [zW] at O0
  clear hW0
  go_loopw [4, 5] (fun o i wr => RelLns W0 (w.heap.size + 1) l k ms o i wr) (fun o i _ => ms.length - (intOf i).toNat)
  case atStart => exact ⟨0, rfl, Nat.zero_le _, fun x hx => absurd hx (by omega), O0.out, X0.out⟩
  case round =>
    obtain ⟨j, rfl, hj, hd, hO, hx⟩ := hrel
    have HD := Lib.hid hd
    have HO := Lib.hid hO
    have HX := Lib.hid hx
    clear hd hO hx
    obtain ⟨⟨p0, p1, p2, p3, p4, p5, p6, p7, p8⟩, _⟩ := Box.nine (BB.out.ext HX.out)
    by_cases hj1 : j < ms.length
    · have j0 : (0 : Int) ≤ (j : Int) := by omega
      have j1 : (j : Int) < (ms.length : Int) := by omega
      have T7 : IntKind.i64.wrap ((j : Int) + 1) = (j : Int) + 1 := IntWalk.i64_in _ (by omega)
      have KJ := Lib.hid (KL.out j hj1)
      have LS := Lib.hid (rlS_succ l k ms j)
      cases hb : rlB l k ms j
      · have HB := Lib.hid (ls_no hj1 hb)
        rw [hb] at KJ
        clear hb LS
        go_wp2_with fail
        refine (KJ.out _ (HF.out.ext HX.out)).mono ?_
        rintro e w2 ⟨rfl, hy⟩
        go_wp2
        go_ret2
        exact ⟨_, ret_vb HB.out, fun h => absurd (h.symm.trans HB.out) (by simp), HW.out.trans (HX.out.trans (hy.alloc _))⟩
      · have HB := Lib.hid hb
        rw [hb] at KJ
        obtain ⟨N, hN⟩ : ∃ N, N = rlL l k ms j := ⟨_, rfl⟩
        rw [← hN] at KJ LS
        clear hb hN
        go_wp2_with fail
        refine (KJ.out _ (HF.out.ext HX.out)).mono ?_
        rintro e w2 ⟨rfl, hy⟩
        have XA := Lib.hid (((HX.out.trans hy).alloc (.cells #[.int .i64 N.a, .int .i64 N.b, .int .i64 N.c, .int .i64 N.d] 27)).alloc (.cells #[.int .i64 N.a, .int .i64 N.b, .int .i64 N.c, .int .i64 N.d] 27))
        have OA := row_ext HO.out ((hy.alloc (.cells #[.int .i64 N.a, .int .i64 N.b, .int .i64 N.c, .int .i64 N.d] 27)).alloc (.cells #[.int .i64 N.a, .int .i64 N.b, .int .i64 N.c, .int .i64 N.d] 27))
        have CC := Lib.hid (lit4_cells (w := w2.alloc (.cells #[.int .i64 N.a, .int .i64 N.b, .int .i64 N.c, .int .i64 N.d] 27)) (x := .int .i64 N.a) (y := .int .i64 N.b) (z := .int .i64 N.c) (u := .int .i64 N.d) (t := 27))
        have eW : (w2.alloc (.cells #[.int .i64 N.a, .int .i64 N.b, .int .i64 N.c, .int .i64 N.d] 27)).heap.size = w2.heap.size + 1 := by simp
        rw [eW] at CC
        have P1 := Lib.hid (ones4 N.a N.b N.c N.d)
        have P3 := Lib.hid (show j + 1 + 1 ≤ maxLen by unfold maxLen; omega)
        have P4 := Lib.hid (show (j + 1 + 1) * 32 ≤ 140737488355328 by omega)
        have zA := Lib.hid (show w.heap.size + 1 ≤ ((w2.alloc (.cells #[.int .i64 N.a, .int .i64 N.b, .int .i64 N.c, .int .i64 N.d] 27)).alloc (.cells #[.int .i64 N.a, .int .i64 N.b, .int .i64 N.c, .int .i64 N.d] 27)).heap.size from zW ▸ Ext.size XA.out)
        clear hy p0 p1 p2 p3 p4 p5 p6 p7 p8 eW
        go_wp2_with (at_builtin; refine wpList_append_own _ rfl _ _ 118 rfl (w.heap.size + 1) 27 i0 (Sg 0 0 0 0) 4 32 Tryz.underlying118 hin hz0 hz1 hz2 rfl (by decide) _ (j + 1) _ rfl OA ⟨w2.heap.size + 1, 0, none⟩ 1 1 [.int .i64 N.a, .int .i64 N.b, .int .i64 N.c, .int .i64 N.d] rfl rfl CC.out P1.out P3.out P4.out zA.out ?_; intro v1 w5 hown hgrow hnil; have O5 := Lib.hid (show w5.ownsRow (w.heap.size + 1) 27 4 v1 (j + 1 + 1) (cellsLs ([l] ++ rlS l k ms (j + 1))) by rw [LS.out, ← List.append_assoc, cellsLs_app _ [N], cellsLs_one]; exact hown); have X5 := Lib.hid (row_grown (w0 := W0) OA hgrow (Nat.le_of_eq zW) XA.out); clear hown hgrow hnil OA)
        go_roundw
        case rel => exact ⟨j + 1, by go_num, by omega, fun x hx => by rcases Nat.lt_or_ge x j with g | g; exact HD.out x g; exact (show x = j by omega) ▸ HB.out, O5.out, X5.out⟩
        case measure => simp [intOf]; omega
    · obtain rfl : j = ms.length := by omega
      have HB := Lib.hid (ls_all HD.out)
      have XA := Lib.hid (HX.out.alloc (.cells #[.int .i64 k.a, .int .i64 k.b, .int .i64 k.c, .int .i64 k.d] 27))
      have OA := row_ext HO.out ((Ext.refl wr).alloc (.cells #[.int .i64 k.a, .int .i64 k.b, .int .i64 k.c, .int .i64 k.d] 27))
      have CC := Lib.hid (lit4_cells (w := wr) (x := .int .i64 k.a) (y := .int .i64 k.b) (z := .int .i64 k.c) (u := .int .i64 k.d) (t := 27))
      have P1 := Lib.hid (ones4 k.a k.b k.c k.d)
      have P3 := Lib.hid (show ms.length + 1 + 1 ≤ maxLen by unfold maxLen; omega)
      have P4 := Lib.hid (show (ms.length + 1 + 1) * 32 ≤ 140737488355328 by omega)
      have zA := Lib.hid (show w.heap.size + 1 ≤ (wr.alloc (.cells #[.int .i64 k.a, .int .i64 k.b, .int .i64 k.c, .int .i64 k.d] 27)).heap.size from zW ▸ Ext.size XA.out)
      go_wp2_with (at_builtin; refine wpList_append_own _ rfl _ _ 118 rfl (w.heap.size + 1) 27 i0 (Sg 0 0 0 0) 4 32 Tryz.underlying118 hin hz0 hz1 hz2 rfl (by decide) _ (ms.length + 1) _ rfl OA ⟨wr.heap.size, 0, none⟩ 1 1 [.int .i64 k.a, .int .i64 k.b, .int .i64 k.c, .int .i64 k.d] rfl rfl CC.out P1.out P3.out P4.out zA.out ?_; intro v1 w5 hown hgrow hnil; have O5 := Lib.hid (show w5.ownsRow (w.heap.size + 1) 27 4 v1 (ms.length + 1 + 1) (cellsLs (stS l k ms)) by unfold stS; rw [cellsLs_app _ [k], cellsLs_one]; exact hown); have X5 := Lib.hid (row_grown (w0 := W0) OA hgrow (Nat.le_of_eq zW) XA.out); clear hown hgrow hnil OA)
      go_ret2
      exact ⟨_, ret_vb HB.out, fun _ => by unfold OwnL; rw [stS_len]; exact row_mono O5.out (by omega), HW.out.trans X5.out⟩
end Go.Proofs.YtmlojndkpnhalaaGreat.Crs
