/- The rounding line of a mark (spec). -/
import Derived.Test.YthaioaaonnfabaaRdl2
import Derived.Deep.DeepCutAuto
namespace Go.Proofs.Ythaioaaonnfabaa.Crs
open Go.ChangeShapes Go.WideShapes Go.ChangeAt Go.RowKit Go.PlainAid
open Go.Proofs.Ythaioaaonnfabaa.Num Go.Proofs.Ythaioaaonnfabaa.Kit Go.Proofs.Ythaioaaonnfabaa.Pts Go.Proofs.Ythaioaaonnfabaa.Seg Go.Proofs.Ythaioaaonnfabaa.Div Go.Proofs.Ythaioaaonnfabaa.Root Go.Proofs.Ythaioaaonnfabaa.Rt
set_option linter.unusedVariables false
set_option linter.unusedSimpArgs false

theorem floorE (a b : Int) (w : World) (hb : 1 ≤ b) (h1 : -4000000000000000000 ≤ a) (h2 : a ≤ 4000000000000000000) :
    Calls Try.prog 45 #[.int .i64 a, .int .i64 b] w fun e w' => e = .returned (.int .i64 (flo a b)) ∧ Ext w w' :=
  (floor_any a b w hb h1 h2).mono fun e w' h => ⟨h.1, h.2 ▸ Ext.refl w⟩
theorem rootE (n : Int) (w : World) (h1 : 0 ≤ n) (h2 : n ≤ 1000000000000000000) :
    Calls Try.prog 43 #[.int .i64 n] w fun e w' => e = .returned (.int .i64 (rt n)) ∧ Ext w w' :=
  (root_any n w h1 h2).mono fun e w' h => ⟨h.1, h.2 ▸ Ext.refl w⟩
theorem rdL_port {m : M5} {dx dy : Int} (h : m.s = 1) : rdL m dx dy = ⟨m.x, m.y, rdX m (10 * m.z) dx dy, rdY m (10 * m.z) dx dy⟩ := by unfold rdL rdW; rw [if_pos h, if_pos h]
theorem rdL_star {m : M5} {dx dy : Int} (h : m.s = 2) : rdL m dx dy = ⟨rdX m (-(10 * m.z)) dx dy, rdY m (-(10 * m.z)) dx dy, m.x, m.y⟩ := by unfold rdL rdW; rw [if_neg (by omega), if_neg (by omega)]
theorem ll_done {n : Nat} {w F : World} {tmps : Array Value} {l : L4} {b : Bool} (B : Box F n (cellsL l)) (hC : Ext w F) (ha : tmps[4]? = some (.pointer (some ⟨n, 0, none⟩))) (hb : tmps[5]? = some (.bool b)) :
    bodyPost Try.prog Try.f22 (fun e w' => e = .returned (.tuple #[LV l, .bool b]) ∧ Ext w w') Exit.ret ⟨tmps, []⟩ F := by
  obtain ⟨⟨g0, g1, g2, g3⟩, _⟩ := B.four
  exact bodyPost_ret (v := .tuple #[LV l, .bool b]) (by simp [results, Try.f22, go_sem, ha, hb, g0, g1, g2, g3]) rfl ⟨rfl, hC⟩

set_option maxRecDepth 100000 in
set_option maxHeartbeats 4000000 in
theorem l06Line_spec (l k : L4) (a : Option Addr) (cap : Nat) (ms : List M5) (i : Nat) (w : World) (hf : Mks w a ms) (hq : crB l k ms = true) (hi : i < ms.length) :
    Calls Try.prog 22 #[CV l k (.slice a ms.length cap), .int .i64 i] w fun e w' => e = .returned (.tuple #[LV (rlL l k ms i), .bool (rlB l k ms i)]) ∧ Ext w w' := by
  obtain ⟨hv, hv2⟩ := cr_lines hq
  have h8 := cr_eight hq
  obtain ⟨e0, e1, e2⟩ := cr_vec hq (show i < ms.length + 1 by omega)
  obtain ⟨⟨mx, my⟩, hs, z1, z2⟩ := mk_yes (cr_mk hq hi)
  obtain ⟨s0, s1⟩ := st_co (cr_pv hq) i
  have ST := Lib.hid (fun w (hf : Mks w a ms) => stations_spec l k a cap ms w hf h8 hv hv2)
  have SG := Lib.hid (fun (i : Nat) (hi : i < ms.length + 2) => cellsP_get _ _ _ (stL_at l k ms i hi))
  have HB := Lib.hid (show rlB l k ms i = sgB (rlL l k ms i).a (rlL l k ms i).b (rlL l k ms i).c (rlL l k ms i).d from rfl)
  have HR := Lib.hid (show rlL l k ms i = rdL (mk ms i) ((stP l k ms (i + 1)).x - (stP l k ms i).x) ((stP l k ms (i + 1)).y - (stP l k ms i).y) from rfl)
  obtain ⟨b, off, rfl, hb⟩ := hf.row (by omega)
  have HA := Lib.hid (hb i hi)
  have HF := Lib.hid hf
  clear hb hf hq
  rw [stP_mark l k ms i hi] at HR e0 e1 e2
  dsimp only at HR e0 e1 e2
  have n1 := rt_one e2
  have n2 := rt_up e0 e1
  obtain ⟨q0, q1⟩ := sqs_bd e0 e1
  obtain ⟨M, hM⟩ : ∃ M, M = mk ms i := ⟨_, rfl⟩
  obtain ⟨P, hP⟩ : ∃ P, P = stP l k ms i := ⟨_, rfl⟩
  have SP := Lib.hid (SG.out i (by omega))
  rw [← hP] at SP s0 s1
  rw [← hM, ← hP] at HR e0 e1 e2 n1 n2 q0 q1
  rw [← hM] at HA hs z1 z2 mx my
  obtain ⟨CL, hCL⟩ : ∃ CL, CL = cellsP (stL l k ms) := ⟨_, rfl⟩
  rw [← hCL] at SP ST
  clear SG hM hP hCL hv hv2
  have PM := Lib.hid (fun w => minus_any M.x M.y P.x P.y w mx my s0 s1)
  obtain ⟨dx, hdx⟩ : ∃ dx, dx = M.x - P.x := ⟨_, rfl⟩
  obtain ⟨dy, hdy⟩ : ∃ dy, dy = M.y - P.y := ⟨_, rfl⟩
  rw [← hdx] at HR e0 e2 n1 n2 q0 q1 PM
  rw [← hdy] at HR e1 e2 n1 n2 q0 q1 PM
  clear hdx hdy
  have PD := Lib.hid (fun w => dot_any dx dy dx dy w e0 e1 e0 e1)
  have PN := Lib.hid (fun w => rootE (dx * dx + dy * dy) w q0 (by omega))
  obtain ⟨N, hN⟩ : ∃ N, N = rt (dx * dx + dy * dy) := ⟨_, rfl⟩
  rw [← hN] at n1 n2 PN
  have X0 : ∀ wd : Int, M.x + flo (dy * wd) N = rdX M wd dx dy := fun wd => by rw [hN]; rfl
  have Y0 : ∀ wd : Int, M.y - flo (dx * wd) N = rdY M wd dx dy := fun wd => by rw [hN]; rfl
  clear hN
  obtain ⟨W1, hW1⟩ : ∃ W1, W1 = w.alloc (.cells (cellsC l k (.slice (some ⟨b, off, none⟩) ms.length cap)).toArray 30) := ⟨_, rfl⟩
  have X1 := Lib.hid (show Ext w W1 from hW1 ▸ (Ext.refl w).alloc _)
  have zV : W1.heap.size = w.heap.size + 1 := by rw [hW1]; simp
  obtain ⟨W3, hW3⟩ : ∃ W3, W3 = ((w.alloc (.cells (cellsC l k (.slice (some ⟨b, off, none⟩) ms.length cap)).toArray 30)).alloc (.cells #[.int .i64 0, .int .i64 0, .int .i64 0, .int .i64 0] 27)).alloc (.cells #[.string M.n, .int .i64 M.x, .int .i64 M.y, .int .i64 M.s, .int .i64 M.z] 36) := ⟨_, rfl⟩
  have X3 := Lib.hid (show Ext w W3 from hW3 ▸ (((Ext.refl w).alloc _).alloc _).alloc _)
  have X13 := Lib.hid (show Ext W1 W3 from hW3 ▸ hW1 ▸ (((Ext.refl _).alloc _).alloc _))
  have BC := Lib.hid (show Box W3 w.heap.size (cellsC l k (.slice (some ⟨b, off, none⟩) ms.length cap)) from hW3 ▸ ((Box.new rfl).alloc _).alloc _)
  have BL := Lib.hid (show Box W3 (w.heap.size + 1) [.int .i64 0, .int .i64 0, .int .i64 0, .int .i64 0] from hW3 ▸ (Box.new4 (by simp)).alloc _)
  have BM := Lib.hid (show Box W3 (w.heap.size + 1 + 1) [.string M.n, .int .i64 M.x, .int .i64 M.y, .int .i64 M.s, .int .i64 M.z] from hW3 ▸ Box.new (vs := [.string M.n, .int .i64 M.x, .int .i64 M.y, .int .i64 M.s, .int .i64 M.z]) (by simp))
  have zW : W3.heap.size = w.heap.size + 1 + 1 + 1 := by rw [hW3]; simp
  have i0 : (0 : Int) ≤ (i : Int) := by omega
  have i1 : (i : Int) < (ms.length : Int) := by omega
  have i2 : (i : Int) < (ms.length : Int) + 2 := by omega
  have i3 : (i : Int) < ((ms.length + 2 : Nat) : Int) := by omega
  have i4 : i < ms.length + 2 := by omega
  have m0 : ∀ A B, ((w.alloc A).alloc B).cell? ⟨b, off + i * 5, none⟩ = some (.string M.n) := fun A B => (((Ext.refl w).alloc A).alloc B).cellOf HA.out.1
  have m1 : ∀ A B, ((w.alloc A).alloc B).cell? ⟨b, off + i * 5 + 1, none⟩ = some (.int .i64 M.x) := fun A B => (((Ext.refl w).alloc A).alloc B).cellOf HA.out.2.1
  have m2 : ∀ A B, ((w.alloc A).alloc B).cell? ⟨b, off + i * 5 + 2, none⟩ = some (.int .i64 M.y) := fun A B => (((Ext.refl w).alloc A).alloc B).cellOf HA.out.2.2.1
  have m3 : ∀ A B, ((w.alloc A).alloc B).cell? ⟨b, off + i * 5 + 3, none⟩ = some (.int .i64 M.s) := fun A B => (((Ext.refl w).alloc A).alloc B).cellOf HA.out.2.2.2.1
  have m4 : ∀ A B, ((w.alloc A).alloc B).cell? ⟨b, off + i * 5 + 4, none⟩ = some (.int .i64 M.z) := fun A B => (((Ext.refl w).alloc A).alloc B).cellOf HA.out.2.2.2.2
  have ec0 : ∀ w', Ext W3 w' → w'.cell? ⟨w.heap.size, 0, none⟩ = some (.int .i64 l.a) := fun w' h => h.cellOf (BC.out 0 _ rfl).1
  have ec1 : ∀ w', Ext W3 w' → w'.cell? ⟨w.heap.size, 1, none⟩ = some (.int .i64 l.b) := fun w' h => h.cellOf (BC.out 1 _ rfl).1
  have ec2 : ∀ w', Ext W3 w' → w'.cell? ⟨w.heap.size, 2, none⟩ = some (.int .i64 l.c) := fun w' h => h.cellOf (BC.out 2 _ rfl).1
  have ec3 : ∀ w', Ext W3 w' → w'.cell? ⟨w.heap.size, 3, none⟩ = some (.int .i64 l.d) := fun w' h => h.cellOf (BC.out 3 _ rfl).1
  have ec4 : ∀ w', Ext W3 w' → w'.cell? ⟨w.heap.size, 4, none⟩ = some (.int .i64 k.a) := fun w' h => h.cellOf (BC.out 4 _ rfl).1
  have ec5 : ∀ w', Ext W3 w' → w'.cell? ⟨w.heap.size, 5, none⟩ = some (.int .i64 k.b) := fun w' h => h.cellOf (BC.out 5 _ rfl).1
  have ec6 : ∀ w', Ext W3 w' → w'.cell? ⟨w.heap.size, 6, none⟩ = some (.int .i64 k.c) := fun w' h => h.cellOf (BC.out 6 _ rfl).1
  have ec7 : ∀ w', Ext W3 w' → w'.cell? ⟨w.heap.size, 7, none⟩ = some (.int .i64 k.d) := fun w' h => h.cellOf (BC.out 7 _ rfl).1
  have ec8 : ∀ w', Ext W3 w' → w'.cell? ⟨w.heap.size, 8, none⟩ = some (.slice (some ⟨b, off, none⟩) ms.length cap) := fun w' h => h.cellOf (BC.out 8 _ rfl).1
  have em0 : ∀ w', Ext W3 w' → w'.cell? ⟨w.heap.size + 1 + 1, 0, none⟩ = some (.string M.n) := fun w' h => h.cellOf (BM.out 0 _ rfl).1
  have em1 : ∀ w', Ext W3 w' → w'.cell? ⟨w.heap.size + 1 + 1, 1, none⟩ = some (.int .i64 M.x) := fun w' h => h.cellOf (BM.out 1 _ rfl).1
  have em2 : ∀ w', Ext W3 w' → w'.cell? ⟨w.heap.size + 1 + 1, 2, none⟩ = some (.int .i64 M.y) := fun w' h => h.cellOf (BM.out 2 _ rfl).1
  have em3 : ∀ w', Ext W3 w' → w'.cell? ⟨w.heap.size + 1 + 1, 3, none⟩ = some (.int .i64 M.s) := fun w' h => h.cellOf (BM.out 3 _ rfl).1
  have em4 : ∀ w', Ext W3 w' → w'.cell? ⟨w.heap.size + 1 + 1, 4, none⟩ = some (.int .i64 M.z) := fun w' h => h.cellOf (BM.out 4 _ rfl).1
  clear HA
  clear hW1
  go_enter Try.func22, Try.ntmps22
  go_upto_region 2 with fail
  rw [← hW3]
  clear hW3 m0 m1 m2 m3 m4
  go_cut [7] (fun s wx => (∃ B, s = .pointer (some ⟨B, 0, none⟩) ∧ w.heap.size + 1 + 1 < B ∧ Box wx B [.int .i64 dx, .int .i64 dy]) ∧ Ext W3 wx)
  case first =>
    refine wp_region_held_drew (S := fun w' => Ext W3 w') (by kernel_rfl) (by (try dsimp only); exact Ext.drew (Ext.refl W3)) (fun hHeld => ?_)
    have hE : Ext W3 W3.drew := Ext.drew (Ext.refl W3)
    obtain ⟨V0, hV0⟩ : ∃ V0, V0 = W3.drew := ⟨_, rfl⟩
    rw [← hV0] at hE hHeld ⊢
    clear hV0
    (refine Ord.takeH 0 17 (v := ?_) rfl rfl (by kernel_rfl) (by kernel_rfl) (by kernel_rfl) (fun _ _ _ h => h) (by rfl) ?_ (by assumption) ?_; rotate_left; (intro w hSw; (try dsimp only at hSw); go_simp; (first | done | with_reducible rfl)); (try simp only [Act.put, List.setIfInBounds_toArray, List.set_cons_zero, List.set_cons_succ])); (refine Ord.takeH 2 19 (v := ?_) rfl rfl (by kernel_rfl) (by kernel_rfl) (by kernel_rfl) (fun _ _ _ h => h) (by rfl) ?_ (by assumption) ?_; rotate_left; (intro w hSw; (try dsimp only at hSw); go_simp; (first | done | with_reducible rfl)); (try simp only [Act.put, List.setIfInBounds_toArray, List.set_cons_zero, List.set_cons_succ])); (refine Ord.takeH 4 21 (v := ?_) rfl rfl (by kernel_rfl) (by kernel_rfl) (by kernel_rfl) (fun _ _ _ h => h) (by rfl) ?_ (by assumption) ?_; rotate_left; (intro w hSw; (try dsimp only at hSw); go_simp; (first | done | with_reducible rfl)); (try simp only [Act.put, List.setIfInBounds_toArray, List.set_cons_zero, List.set_cons_succ])); (refine Ord.takeH 1 18 (v := ?_) rfl rfl (by kernel_rfl) (by kernel_rfl) (by kernel_rfl) (fun _ _ _ h => h) (by rfl) ?_ (by assumption) ?_; rotate_left; (intro w hSw; (try dsimp only at hSw); go_simp; (first | done | with_reducible rfl)); (try simp only [Act.put, List.setIfInBounds_toArray, List.set_cons_zero, List.set_cons_succ]))
    refine wpAnyH_ready (rs := [3, 8]) (by kernel_rfl) (by simp) ?_
    refine (AllReadyH.cons rfl (fun K hK => ?_) (AllReadyH.cons rfl (fun K hK => ?_) AllReadyH.nil))
    · go_simp
      go_at_call 41
      refine (ST.out _ (HF.out.ext (X3.out.trans hE))).mono ?_
      rintro e V1 ⟨v, rfl, hO, hy⟩
      go_wp2_with fail
      have zy := Ext.size hy
      have hE' := hE.trans hy
      refine hK.out _ _ hE' (fun hHeld => ?_)
      clear hK K
      (try simp only [Act.put, List.setIfInBounds_toArray, List.set_cons_zero, List.set_cons_succ])
      replace hE := hE'
      obtain ⟨g, cp, rfl, hcp, hg0, hC⟩ := row_some hO (by omega)
      have c0 := (hC (i * 2) (by omega)).trans SP.out.1
      have c1 := (hC (i * 2 + 1) (by omega)).trans SP.out.2
      clear hO hC
      clear hE' hy
      (refine Ord.takeH 5 22 (v := ?_) rfl rfl (by kernel_rfl) (by kernel_rfl) (by kernel_rfl) (fun _ _ _ h => h) (by rfl) ?_ (by assumption) ?_; rotate_left; (intro w hSw; (try dsimp only at hSw); go_simp; (first | done | with_reducible rfl)); (try simp only [Act.put, List.setIfInBounds_toArray, List.set_cons_zero, List.set_cons_succ]))
      refine wpAnyH_ready (rs := [6, 8]) (by kernel_rfl) (by simp) ?_
      refine (AllReadyH.cons rfl (fun K hK => ?_) (AllReadyH.cons rfl (fun K hK => ?_) AllReadyH.nil))
      · go_simp
        refine hK.out _ _ hE (fun hHeld => ?_)
        clear hK K
        (try simp only [Act.put, List.setIfInBounds_toArray, List.set_cons_zero, List.set_cons_succ])
        refine wpAnyH_ready (rs := [7, 8]) (by kernel_rfl) (by simp) ?_
        refine (AllReadyH.cons rfl (fun K hK => ?_) (AllReadyH.cons rfl (fun K hK => ?_) AllReadyH.nil))
        · go_simp
          go_at_call 42
          refine (PM.out _).mono ?_
          rintro e V2 ⟨rfl, hy⟩
          go_wp2_with fail
          have zy := Ext.size hy
          have hE' := hE.trans hy
          refine hK.out _ _ hE' (fun hHeld => ?_)
          clear hK K
          (try simp only [Act.put, List.setIfInBounds_toArray, List.set_cons_zero, List.set_cons_succ])
          replace c0 := cell_ext c0 hy
          replace c1 := cell_ext c1 hy
          replace hE := hE'
          clear hE' hy
          refine wpAnyH_ready (rs := [8]) (by kernel_rfl) (by simp) ?_
          refine (AllReadyH.cons rfl (fun K hK => ?_) AllReadyH.nil)
          go_simp
          have hy : Ext V2 (V2.alloc (.cells #[.int .i64 0, .int .i64 0] 25)) := (Ext.refl V2).alloc _
          have hE' := hE.trans hy
          refine hK.out _ _ hE' (fun hHeld => ?_)
          clear hK K
          (try simp only [Act.put, List.setIfInBounds_toArray, List.set_cons_zero, List.set_cons_succ])
          replace c0 := cell_ext c0 hy
          replace c1 := cell_ext c1 hy
          have P8 : Box (V2.alloc (.cells #[.int .i64 0, .int .i64 0] 25)) V2.heap.size [.int .i64 0, .int .i64 0] := Box.new (vs := [.int .i64 0, .int .i64 0]) rfl
          have z8 := Ext.size hE
          have y8 : V2.heap.size < (V2.alloc (.cells #[.int .i64 0, .int .i64 0] 25)).heap.size := by simp
          replace hE := hE'
          clear hE' hy
          generalize V2.alloc (.cells #[.int .i64 0, .int .i64 0] 25) = V3 at *
          refine wpAnyH_ready (rs := [9]) (by kernel_rfl) (by simp) ?_
          refine (AllReadyH.cons rfl (fun K hK => ?_) AllReadyH.nil)
          obtain ⟨⟨r0, r1⟩, r2, r3⟩ := P8.two
          go_simp
          have hE' : Ext W3 ((V3.setCell ⟨V2.heap.size, 0, none⟩ (.int .i64 dx)).setCell ⟨V2.heap.size, 1, none⟩ (.int .i64 dy)) := ((hE.setNew (by first | omega | (simp; omega) | simp) _).setNew (by first | omega | (simp; omega) | simp) _)
          refine hK.out _ _ hE' (fun hHeld => ?_)
          clear hK K r0 r1 r2 r3
          (try simp only [Act.put, List.setIfInBounds_toArray, List.set_cons_zero, List.set_cons_succ])
          replace P8 := P8.set2 (u := .int .i64 dx) (v := .int .i64 dy)
          replace hE := hE'
          clear hE'
          generalize ((V3.setCell ⟨V2.heap.size, 0, none⟩ (.int .i64 dx)).setCell ⟨V2.heap.size, 1, none⟩ (.int .i64 dy)) = V4 at *
          refine wpAnyH_done (by kernel_rfl) ?_ _
          go_wp2_with fail; go_meet; exact ⟨⟨_, rfl, by omega, P8⟩, hE⟩
        · go_simp
          have hy : Ext V1 (V1.alloc (.cells #[.int .i64 0, .int .i64 0] 25)) := (Ext.refl V1).alloc _
          have hE' := hE.trans hy
          refine hK.out _ _ hE' (fun hHeld => ?_)
          clear hK K
          (try simp only [Act.put, List.setIfInBounds_toArray, List.set_cons_zero, List.set_cons_succ])
          replace c0 := cell_ext c0 hy
          replace c1 := cell_ext c1 hy
          have P8 : Box (V1.alloc (.cells #[.int .i64 0, .int .i64 0] 25)) V1.heap.size [.int .i64 0, .int .i64 0] := Box.new (vs := [.int .i64 0, .int .i64 0]) rfl
          have z8 := Ext.size hE
          have y8 : V1.heap.size < (V1.alloc (.cells #[.int .i64 0, .int .i64 0] 25)).heap.size := by simp
          replace hE := hE'
          clear hE' hy
          generalize V1.alloc (.cells #[.int .i64 0, .int .i64 0] 25) = V2 at *
          refine wpAnyH_ready (rs := [7]) (by kernel_rfl) (by simp) ?_
          refine (AllReadyH.cons rfl (fun K hK => ?_) AllReadyH.nil)
          go_simp
          go_at_call 42
          refine (PM.out _).mono ?_
          rintro e V3 ⟨rfl, hy⟩
          go_wp2_with fail
          have zy := Ext.size hy
          have hE' := hE.trans hy
          refine hK.out _ _ hE' (fun hHeld => ?_)
          clear hK K
          (try simp only [Act.put, List.setIfInBounds_toArray, List.set_cons_zero, List.set_cons_succ])
          replace c0 := cell_ext c0 hy
          replace c1 := cell_ext c1 hy
          replace P8 := P8.ext hy
          replace hE := hE'
          clear hE' hy
          refine wpAnyH_ready (rs := [9]) (by kernel_rfl) (by simp) ?_
          refine (AllReadyH.cons rfl (fun K hK => ?_) AllReadyH.nil)
          obtain ⟨⟨r0, r1⟩, r2, r3⟩ := P8.two
          go_simp
          have hE' : Ext W3 ((V3.setCell ⟨V1.heap.size, 0, none⟩ (.int .i64 dx)).setCell ⟨V1.heap.size, 1, none⟩ (.int .i64 dy)) := ((hE.setNew (by first | omega | (simp; omega) | simp) _).setNew (by first | omega | (simp; omega) | simp) _)
          refine hK.out _ _ hE' (fun hHeld => ?_)
          clear hK K r0 r1 r2 r3
          (try simp only [Act.put, List.setIfInBounds_toArray, List.set_cons_zero, List.set_cons_succ])
          replace P8 := P8.set2 (u := .int .i64 dx) (v := .int .i64 dy)
          replace hE := hE'
          clear hE'
          generalize ((V3.setCell ⟨V1.heap.size, 0, none⟩ (.int .i64 dx)).setCell ⟨V1.heap.size, 1, none⟩ (.int .i64 dy)) = V4 at *
          refine wpAnyH_done (by kernel_rfl) ?_ _
          go_wp2_with fail; go_meet; exact ⟨⟨_, rfl, by omega, P8⟩, hE⟩
      · go_simp
        have hy : Ext V1 (V1.alloc (.cells #[.int .i64 0, .int .i64 0] 25)) := (Ext.refl V1).alloc _
        have hE' := hE.trans hy
        refine hK.out _ _ hE' (fun hHeld => ?_)
        clear hK K
        (try simp only [Act.put, List.setIfInBounds_toArray, List.set_cons_zero, List.set_cons_succ])
        replace c0 := cell_ext c0 hy
        replace c1 := cell_ext c1 hy
        have P8 : Box (V1.alloc (.cells #[.int .i64 0, .int .i64 0] 25)) V1.heap.size [.int .i64 0, .int .i64 0] := Box.new (vs := [.int .i64 0, .int .i64 0]) rfl
        have z8 := Ext.size hE
        have y8 : V1.heap.size < (V1.alloc (.cells #[.int .i64 0, .int .i64 0] 25)).heap.size := by simp
        replace hE := hE'
        clear hE' hy
        generalize V1.alloc (.cells #[.int .i64 0, .int .i64 0] 25) = V2 at *
        refine wpAnyH_ready (rs := [6]) (by kernel_rfl) (by simp) ?_
        refine (AllReadyH.cons rfl (fun K hK => ?_) AllReadyH.nil)
        go_simp
        refine hK.out _ _ hE (fun hHeld => ?_)
        clear hK K
        (try simp only [Act.put, List.setIfInBounds_toArray, List.set_cons_zero, List.set_cons_succ])
        refine wpAnyH_ready (rs := [7]) (by kernel_rfl) (by simp) ?_
        refine (AllReadyH.cons rfl (fun K hK => ?_) AllReadyH.nil)
        go_simp
        go_at_call 42
        refine (PM.out _).mono ?_
        rintro e V3 ⟨rfl, hy⟩
        go_wp2_with fail
        have zy := Ext.size hy
        have hE' := hE.trans hy
        refine hK.out _ _ hE' (fun hHeld => ?_)
        clear hK K
        (try simp only [Act.put, List.setIfInBounds_toArray, List.set_cons_zero, List.set_cons_succ])
        replace c0 := cell_ext c0 hy
        replace c1 := cell_ext c1 hy
        replace P8 := P8.ext hy
        replace hE := hE'
        clear hE' hy
        refine wpAnyH_ready (rs := [9]) (by kernel_rfl) (by simp) ?_
        refine (AllReadyH.cons rfl (fun K hK => ?_) AllReadyH.nil)
        obtain ⟨⟨r0, r1⟩, r2, r3⟩ := P8.two
        go_simp
        have hE' : Ext W3 ((V3.setCell ⟨V1.heap.size, 0, none⟩ (.int .i64 dx)).setCell ⟨V1.heap.size, 1, none⟩ (.int .i64 dy)) := ((hE.setNew (by first | omega | (simp; omega) | simp) _).setNew (by first | omega | (simp; omega) | simp) _)
        refine hK.out _ _ hE' (fun hHeld => ?_)
        clear hK K r0 r1 r2 r3
        (try simp only [Act.put, List.setIfInBounds_toArray, List.set_cons_zero, List.set_cons_succ])
        replace P8 := P8.set2 (u := .int .i64 dx) (v := .int .i64 dy)
        replace hE := hE'
        clear hE'
        generalize ((V3.setCell ⟨V1.heap.size, 0, none⟩ (.int .i64 dx)).setCell ⟨V1.heap.size, 1, none⟩ (.int .i64 dy)) = V4 at *
        refine wpAnyH_done (by kernel_rfl) ?_ _
        go_wp2_with fail; go_meet; exact ⟨⟨_, rfl, by omega, P8⟩, hE⟩
    · go_simp
      have hy : Ext V0 (V0.alloc (.cells #[.int .i64 0, .int .i64 0] 25)) := (Ext.refl V0).alloc _
      have hE' := hE.trans hy
      refine hK.out _ _ hE' (fun hHeld => ?_)
      clear hK K
      (try simp only [Act.put, List.setIfInBounds_toArray, List.set_cons_zero, List.set_cons_succ])
      have P8 : Box (V0.alloc (.cells #[.int .i64 0, .int .i64 0] 25)) V0.heap.size [.int .i64 0, .int .i64 0] := Box.new (vs := [.int .i64 0, .int .i64 0]) rfl
      have z8 := Ext.size hE
      have y8 : V0.heap.size < (V0.alloc (.cells #[.int .i64 0, .int .i64 0] 25)).heap.size := by simp
      replace hE := hE'
      clear hE' hy
      generalize V0.alloc (.cells #[.int .i64 0, .int .i64 0] 25) = V1 at *
      refine wpAnyH_ready (rs := [3]) (by kernel_rfl) (by simp) ?_
      refine (AllReadyH.cons rfl (fun K hK => ?_) AllReadyH.nil)
      go_simp
      go_at_call 41
      refine (ST.out _ (HF.out.ext (X3.out.trans hE))).mono ?_
      rintro e V2 ⟨v, rfl, hO, hy⟩
      go_wp2_with fail
      have zy := Ext.size hy
      have hE' := hE.trans hy
      refine hK.out _ _ hE' (fun hHeld => ?_)
      clear hK K
      (try simp only [Act.put, List.setIfInBounds_toArray, List.set_cons_zero, List.set_cons_succ])
      replace P8 := P8.ext hy
      replace hE := hE'
      obtain ⟨g, cp, rfl, hcp, hg0, hC⟩ := row_some hO (by omega)
      have c0 := (hC (i * 2) (by omega)).trans SP.out.1
      have c1 := (hC (i * 2 + 1) (by omega)).trans SP.out.2
      clear hO hC
      clear hE' hy
      (refine Ord.takeH 5 22 (v := ?_) rfl rfl (by kernel_rfl) (by kernel_rfl) (by kernel_rfl) (fun _ _ _ h => h) (by rfl) ?_ (by assumption) ?_; rotate_left; (intro w hSw; (try dsimp only at hSw); go_simp; (first | done | with_reducible rfl)); (try simp only [Act.put, List.setIfInBounds_toArray, List.set_cons_zero, List.set_cons_succ]))
      refine wpAnyH_ready (rs := [6]) (by kernel_rfl) (by simp) ?_
      refine (AllReadyH.cons rfl (fun K hK => ?_) AllReadyH.nil)
      go_simp
      refine hK.out _ _ hE (fun hHeld => ?_)
      clear hK K
      (try simp only [Act.put, List.setIfInBounds_toArray, List.set_cons_zero, List.set_cons_succ])
      refine wpAnyH_ready (rs := [7]) (by kernel_rfl) (by simp) ?_
      refine (AllReadyH.cons rfl (fun K hK => ?_) AllReadyH.nil)
      go_simp
      go_at_call 42
      refine (PM.out _).mono ?_
      rintro e V3 ⟨rfl, hy⟩
      go_wp2_with fail
      have zy := Ext.size hy
      have hE' := hE.trans hy
      refine hK.out _ _ hE' (fun hHeld => ?_)
      clear hK K
      (try simp only [Act.put, List.setIfInBounds_toArray, List.set_cons_zero, List.set_cons_succ])
      replace c0 := cell_ext c0 hy
      replace c1 := cell_ext c1 hy
      replace P8 := P8.ext hy
      replace hE := hE'
      clear hE' hy
      refine wpAnyH_ready (rs := [9]) (by kernel_rfl) (by simp) ?_
      refine (AllReadyH.cons rfl (fun K hK => ?_) AllReadyH.nil)
      obtain ⟨⟨r0, r1⟩, r2, r3⟩ := P8.two
      go_simp
      have hE' : Ext W3 ((V3.setCell ⟨V0.heap.size, 0, none⟩ (.int .i64 dx)).setCell ⟨V0.heap.size, 1, none⟩ (.int .i64 dy)) := ((hE.setNew (by first | omega | (simp; omega) | simp) _).setNew (by first | omega | (simp; omega) | simp) _)
      refine hK.out _ _ hE' (fun hHeld => ?_)
      clear hK K r0 r1 r2 r3
      (try simp only [Act.put, List.setIfInBounds_toArray, List.set_cons_zero, List.set_cons_succ])
      replace P8 := P8.set2 (u := .int .i64 dx) (v := .int .i64 dy)
      replace hE := hE'
      clear hE'
      generalize ((V3.setCell ⟨V0.heap.size, 0, none⟩ (.int .i64 dx)).setCell ⟨V0.heap.size, 1, none⟩ (.int .i64 dy)) = V4 at *
      refine wpAnyH_done (by kernel_rfl) ?_ _
      go_wp2_with fail; go_meet; exact ⟨⟨_, rfl, by omega, P8⟩, hE⟩
  case rest =>
    obtain ⟨⟨B7, rfl, hB7, P7⟩, X4⟩ := hcut
    obtain ⟨⟨d0, d1⟩, _⟩ := P7.two
    go_wp2_with fail
    refine (PD.out _).mono ?_
    rintro e w5 ⟨rfl, hy⟩
    replace d0 := hy.cellOf d0
    replace d1 := hy.cellOf d1
    replace X4 := X4.trans hy
    clear hy P7
    go_wp2_with fail
    refine (PN.out _).mono ?_
    rintro e w6 ⟨rfl, hy⟩
    replace d0 := hy.cellOf d0
    replace d1 := hy.cellOf d1
    have X6 := X4.trans hy
    have z6 := Ext.size X6
    clear hy X4
    rcases hs with hs | hs
    · skip
      obtain ⟨a1, a2⟩ := mul_bd 2000000 50000 e1 (show -50000 ≤ 10 * M.z ∧ 10 * M.z ≤ 50000 by omega)
      obtain ⟨b1, b2⟩ := mul_bd 2000000 50000 e0 (show -50000 ≤ 10 * M.z ∧ 10 * M.z ≤ 50000 by omega)
      simp only [Int.reduceMul, Int.reduceNeg] at a1 a2 b1 b2
      obtain ⟨c1, c2⟩ := flo_bd n1 100000000000 a1 a2
      obtain ⟨d3, d4⟩ := flo_bd n1 100000000000 b1 b2
      have FE := Lib.hid (fun w => floorE (dy * (10 * M.z)) N w n1 (by omega) (by omega))
      have FS := Lib.hid (fun w => floorE (dx * (10 * M.z)) N w n1 (by omega) (by omega))
      obtain ⟨E, hE⟩ : ∃ E, E = flo (dy * (10 * M.z)) N := ⟨_, rfl⟩
      obtain ⟨S, hS⟩ : ∃ S, S = flo (dx * (10 * M.z)) N := ⟨_, rfl⟩
      rw [← hE] at FE c1 c2
      rw [← hS] at FS d3 d4
      unfold Co at mx my
      have T1 : IntKind.i64.wrap (M.x + E) = M.x + E := IntWalk.i64_in _ (by omega)
      have T2 : IntKind.i64.wrap (M.y - S) = M.y - S := IntWalk.i64_in _ (by omega)
      have T3 : IntKind.i64.wrap (dy * (10 * M.z)) = dy * (10 * M.z) := IntWalk.i64_in _ (by omega)
      have T4 : IntKind.i64.wrap (dx * (10 * M.z)) = dx * (10 * M.z) := IntWalk.i64_in _ (by omega)
      have T5 : IntKind.i64.wrap (10 * M.z) = 10 * M.z := IntWalk.i64_in _ (by omega)
      have T6 : IntKind.i64.wrap (-(10 * M.z)) = -(10 * M.z) := IntWalk.i64_in _ (by omega)
      have HR2 := Lib.hid (show rlL l k ms i = (⟨M.x, M.y, M.x + E, M.y - S⟩ : L4) by rw [HR.out, rdL_port hs, ← X0 (10 * M.z), ← Y0 (10 * M.z), hE, hS])
      replace HB := Lib.hid (show rlB l k ms i = sgB M.x M.y (M.x + E) (M.y - S) by rw [HB.out, HR2.out])
      clear hE hS X0 Y0
      clear HR
      have m0 := em0 _ X6
      have m1 := em1 _ X6
      have m2 := em2 _ X6
      have m3 := em3 _ X6
      have m4 := em4 _ X6
      rw [hs] at m3
      clear ec0 ec1 ec2 ec3 ec4 ec5 ec6 ec7 ec8 em0 em1 em2 em3 em4
      go_upto_region 7 with fail
      have em0 : ∀ w', Ext w6 w' → w'.cell? ⟨w.heap.size + 1 + 1, 0, none⟩ = some (.string M.n) := fun w' h => h.cellOf m0
      have em1 : ∀ w', Ext w6 w' → w'.cell? ⟨w.heap.size + 1 + 1, 1, none⟩ = some (.int .i64 M.x) := fun w' h => h.cellOf m1
      have em2 : ∀ w', Ext w6 w' → w'.cell? ⟨w.heap.size + 1 + 1, 2, none⟩ = some (.int .i64 M.y) := fun w' h => h.cellOf m2
      have em3 : ∀ w', Ext w6 w' → w'.cell? ⟨w.heap.size + 1 + 1, 3, none⟩ = some (.int .i64 1) := fun w' h => h.cellOf m3
      have ed0 : ∀ w', Ext w6 w' → w'.cell? ⟨B7, 0, none⟩ = some (.int .i64 dx) := fun w' h => h.cellOf d0
      have ed1 : ∀ w', Ext w6 w' → w'.cell? ⟨B7, 1, none⟩ = some (.int .i64 dy) := fun w' h => h.cellOf d1
      go_cut [10] (fun s wx => (∃ B, s = .pointer (some ⟨B, 0, none⟩) ∧ w.heap.size + 1 + 1 < B ∧ Box wx B [.int .i64 (M.x + E), .int .i64 (M.y - S)]) ∧ Ext w6 wx)
      case first =>
        clear m0 m1 m2 m3 m4 d0 d1
        refine wp_region_held_drew (S := fun w' => Ext w6 w') (by kernel_rfl) (by (try dsimp only); exact Ext.drew (Ext.refl w6)) (fun hHeld => ?_)
        have hE : Ext w6 w6.drew := Ext.drew (Ext.refl w6)
        obtain ⟨V0, hV0⟩ : ∃ V0, V0 = w6.drew := ⟨_, rfl⟩
        rw [← hV0] at hE hHeld ⊢
        clear hV0
        (refine Ord.takeH 0 37 (v := ?_) rfl rfl (by kernel_rfl) (by kernel_rfl) (by kernel_rfl) (fun _ _ _ h => h) (by rfl) ?_ (by assumption) ?_; rotate_left; (intro w hSw; (try dsimp only at hSw); go_simp; (first | done | with_reducible rfl)); (try simp only [Act.put, List.setIfInBounds_toArray, List.set_cons_zero, List.set_cons_succ])); (refine Ord.takeH 3 40 (v := ?_) rfl rfl (by kernel_rfl) (by kernel_rfl) (by kernel_rfl) (fun _ _ _ h => h) (by rfl) ?_ (by assumption) ?_; rotate_left; (intro w hSw; (try dsimp only at hSw); go_simp; (first | done | with_reducible rfl)); (try simp only [Act.put, List.setIfInBounds_toArray, List.set_cons_zero, List.set_cons_succ])); (refine Ord.takeH 5 42 (v := ?_) rfl rfl (by kernel_rfl) (by kernel_rfl) (by kernel_rfl) (fun _ _ _ h => h) (by rfl) ?_ (by assumption) ?_; rotate_left; (intro w hSw; (try dsimp only at hSw); go_simp; (first | done | with_reducible rfl)); (try simp only [Act.put, List.setIfInBounds_toArray, List.set_cons_zero, List.set_cons_succ])); (refine Ord.takeH 7 44 (v := ?_) rfl rfl (by kernel_rfl) (by kernel_rfl) (by kernel_rfl) (fun _ _ _ h => h) (by rfl) ?_ (by assumption) ?_; rotate_left; (intro w hSw; (try dsimp only at hSw); go_simp; (first | done | with_reducible rfl)); (try simp only [Act.put, List.setIfInBounds_toArray, List.set_cons_zero, List.set_cons_succ])); (refine Ord.takeH 10 47 (v := ?_) rfl rfl (by kernel_rfl) (by kernel_rfl) (by kernel_rfl) (fun _ _ _ h => h) (by rfl) ?_ (by assumption) ?_; rotate_left; (intro w hSw; (try dsimp only at hSw); go_simp; (first | done | with_reducible rfl)); (try simp only [Act.put, List.setIfInBounds_toArray, List.set_cons_zero, List.set_cons_succ])); (refine Ord.takeH 13 50 (v := ?_) rfl rfl (by kernel_rfl) (by kernel_rfl) (by kernel_rfl) (fun _ _ _ h => h) (by rfl) ?_ (by assumption) ?_; rotate_left; (intro w hSw; (try dsimp only at hSw); go_simp; (first | done | with_reducible rfl)); (try simp only [Act.put, List.setIfInBounds_toArray, List.set_cons_zero, List.set_cons_succ])); (refine Ord.takeH 15 52 (v := ?_) rfl rfl (by kernel_rfl) (by kernel_rfl) (by kernel_rfl) (fun _ _ _ h => h) (by rfl) ?_ (by assumption) ?_; rotate_left; (intro w hSw; (try dsimp only at hSw); go_simp; (first | done | with_reducible rfl)); (try simp only [Act.put, List.setIfInBounds_toArray, List.set_cons_zero, List.set_cons_succ])); (refine Ord.takeH 17 54 (v := ?_) rfl rfl (by kernel_rfl) (by kernel_rfl) (by kernel_rfl) (fun _ _ _ h => h) (by rfl) ?_ (by assumption) ?_; rotate_left; (intro w hSw; (try dsimp only at hSw); go_simp; (first | done | with_reducible rfl)); (try simp only [Act.put, List.setIfInBounds_toArray, List.set_cons_zero, List.set_cons_succ])); (refine Ord.takeH 1 38 (v := ?_) rfl rfl (by kernel_rfl) (by kernel_rfl) (by kernel_rfl) (fun _ _ _ h => h) (by rfl) ?_ (by assumption) ?_; rotate_left; (intro w hSw; (try dsimp only at hSw); go_simp; (first | done | with_reducible rfl)); (try simp only [Act.put, List.setIfInBounds_toArray, List.set_cons_zero, List.set_cons_succ])); (refine Ord.takeH 4 41 (v := ?_) rfl rfl (by kernel_rfl) (by kernel_rfl) (by kernel_rfl) (fun _ _ _ h => h) (by rfl) ?_ (by assumption) ?_; rotate_left; (intro w hSw; (try dsimp only at hSw); go_simp; (first | done | with_reducible rfl)); (try simp only [Act.put, List.setIfInBounds_toArray, List.set_cons_zero, List.set_cons_succ])); (refine Ord.takeH 11 48 (v := ?_) rfl rfl (by kernel_rfl) (by kernel_rfl) (by kernel_rfl) (fun _ _ _ h => h) (by rfl) ?_ (by assumption) ?_; rotate_left; (intro w hSw; (try dsimp only at hSw); go_simp; (first | done | with_reducible rfl)); (try simp only [Act.put, List.setIfInBounds_toArray, List.set_cons_zero, List.set_cons_succ])); (refine Ord.takeH 14 51 (v := ?_) rfl rfl (by kernel_rfl) (by kernel_rfl) (by kernel_rfl) (fun _ _ _ h => h) (by rfl) ?_ (by assumption) ?_; rotate_left; (intro w hSw; (try dsimp only at hSw); go_simp; (first | done | with_reducible rfl)); (try simp only [Act.put, List.setIfInBounds_toArray, List.set_cons_zero, List.set_cons_succ])); (refine Ord.takeH 2 39 (v := ?_) rfl rfl (by kernel_rfl) (by kernel_rfl) (by kernel_rfl) (fun _ _ _ h => h) (by rfl) ?_ (by assumption) ?_; rotate_left; (intro w hSw; (try dsimp only at hSw); go_simp; (first | done | with_reducible rfl)); (try simp only [Act.put, List.setIfInBounds_toArray, List.set_cons_zero, List.set_cons_succ])); (refine Ord.takeH 6 43 (v := ?_) rfl rfl (by kernel_rfl) (by kernel_rfl) (by kernel_rfl) (fun _ _ _ h => h) (by rfl) ?_ (by assumption) ?_; rotate_left; (intro w hSw; (try dsimp only at hSw); go_simp; (first | done | with_reducible rfl)); (try simp only [Act.put, List.setIfInBounds_toArray, List.set_cons_zero, List.set_cons_succ])); (refine Ord.takeH 12 49 (v := ?_) rfl rfl (by kernel_rfl) (by kernel_rfl) (by kernel_rfl) (fun _ _ _ h => h) (by rfl) ?_ (by assumption) ?_; rotate_left; (intro w hSw; (try dsimp only at hSw); go_simp; (first | done | with_reducible rfl)); (try simp only [Act.put, List.setIfInBounds_toArray, List.set_cons_zero, List.set_cons_succ])); (refine Ord.takeH 16 53 (v := ?_) rfl rfl (by kernel_rfl) (by kernel_rfl) (by kernel_rfl) (fun _ _ _ h => h) (by rfl) ?_ (by assumption) ?_; rotate_left; (intro w hSw; (try dsimp only at hSw); go_simp; (first | done | with_reducible rfl)); (try simp only [Act.put, List.setIfInBounds_toArray, List.set_cons_zero, List.set_cons_succ]))
        refine wpAnyH_ready (rs := [8, 21]) (by kernel_rfl) (by simp) ?_
        refine (AllReadyH.cons rfl (fun K hK => ?_) (AllReadyH.cons rfl (fun K hK => ?_) AllReadyH.nil))
        · go_simp
          go_at_call 45
          refine (FE.out _).mono ?_
          rintro e V1 ⟨rfl, hy⟩
          go_wp2_with fail
          have zy := Ext.size hy
          have hE' := hE.trans hy
          refine hK.out _ _ hE' (fun hHeld => ?_)
          clear hK K
          (try simp only [Act.put, List.setIfInBounds_toArray, List.set_cons_zero, List.set_cons_succ])
          replace hE := hE'
          clear hE' hy
          (refine Ord.takeH 9 46 (v := ?_) rfl rfl (by kernel_rfl) (by kernel_rfl) (by kernel_rfl) (fun _ _ _ h => h) (by rfl) ?_ (by assumption) ?_; rotate_left; (intro w hSw; (try dsimp only at hSw); go_simp; (first | done | with_reducible rfl)); (try simp only [Act.put, List.setIfInBounds_toArray, List.set_cons_zero, List.set_cons_succ]))
          refine wpAnyH_ready (rs := [18, 21]) (by kernel_rfl) (by simp) ?_
          refine (AllReadyH.cons rfl (fun K hK => ?_) (AllReadyH.cons rfl (fun K hK => ?_) AllReadyH.nil))
          · go_simp
            go_at_call 45
            refine (FS.out _).mono ?_
            rintro e V2 ⟨rfl, hy⟩
            go_wp2_with fail
            have zy := Ext.size hy
            have hE' := hE.trans hy
            refine hK.out _ _ hE' (fun hHeld => ?_)
            clear hK K
            (try simp only [Act.put, List.setIfInBounds_toArray, List.set_cons_zero, List.set_cons_succ])
            replace hE := hE'
            clear hE' hy
            (refine Ord.takeH 19 56 (v := ?_) rfl rfl (by kernel_rfl) (by kernel_rfl) (by kernel_rfl) (fun _ _ _ h => h) (by rfl) ?_ (by assumption) ?_; rotate_left; (intro w hSw; (try dsimp only at hSw); go_simp; (first | done | with_reducible rfl)); (try simp only [Act.put, List.setIfInBounds_toArray, List.set_cons_zero, List.set_cons_succ])); (refine Ord.takeH 20 57 (v := ?_) rfl rfl (by kernel_rfl) (by kernel_rfl) (by kernel_rfl) (fun _ _ _ h => h) (by rfl) ?_ (by assumption) ?_; rotate_left; (intro w hSw; (try dsimp only at hSw); go_simp; (first | done | with_reducible rfl)); (try simp only [Act.put, List.setIfInBounds_toArray, List.set_cons_zero, List.set_cons_succ]))
            refine wpAnyH_ready (rs := [21]) (by kernel_rfl) (by simp) ?_
            refine (AllReadyH.cons rfl (fun K hK => ?_) AllReadyH.nil)
            go_simp
            have hy : Ext V2 (V2.alloc (.cells #[.int .i64 0, .int .i64 0] 25)) := (Ext.refl V2).alloc _
            have hE' := hE.trans hy
            refine hK.out _ _ hE' (fun hHeld => ?_)
            clear hK K
            (try simp only [Act.put, List.setIfInBounds_toArray, List.set_cons_zero, List.set_cons_succ])
            have P21 : Box (V2.alloc (.cells #[.int .i64 0, .int .i64 0] 25)) V2.heap.size [.int .i64 0, .int .i64 0] := Box.new (vs := [.int .i64 0, .int .i64 0]) rfl
            have z21 := Ext.size hE
            have y21 : V2.heap.size < (V2.alloc (.cells #[.int .i64 0, .int .i64 0] 25)).heap.size := by simp
            replace hE := hE'
            clear hE' hy
            generalize V2.alloc (.cells #[.int .i64 0, .int .i64 0] 25) = V3 at *
            refine wpAnyH_ready (rs := [22]) (by kernel_rfl) (by simp) ?_
            refine (AllReadyH.cons rfl (fun K hK => ?_) AllReadyH.nil)
            obtain ⟨⟨r0, r1⟩, r2, r3⟩ := P21.two
            go_simp
            have hE' : Ext w6 ((V3.setCell ⟨V2.heap.size, 0, none⟩ (.int .i64 (M.x + E))).setCell ⟨V2.heap.size, 1, none⟩ (.int .i64 (M.y - S))) := ((hE.setNew (by first | omega | (simp; omega) | simp) _).setNew (by first | omega | (simp; omega) | simp) _)
            refine hK.out _ _ hE' (fun hHeld => ?_)
            clear hK K r0 r1 r2 r3
            (try simp only [Act.put, List.setIfInBounds_toArray, List.set_cons_zero, List.set_cons_succ])
            replace P21 := P21.set2 (u := .int .i64 (M.x + E)) (v := .int .i64 (M.y - S))
            replace hE := hE'
            clear hE'
            generalize ((V3.setCell ⟨V2.heap.size, 0, none⟩ (.int .i64 (M.x + E))).setCell ⟨V2.heap.size, 1, none⟩ (.int .i64 (M.y - S))) = V4 at *
            refine wpAnyH_done (by kernel_rfl) ?_ _
            go_wp2_with fail; go_meet; exact ⟨⟨_, rfl, by omega, P21⟩, hE⟩
          · go_simp
            have hy : Ext V1 (V1.alloc (.cells #[.int .i64 0, .int .i64 0] 25)) := (Ext.refl V1).alloc _
            have hE' := hE.trans hy
            refine hK.out _ _ hE' (fun hHeld => ?_)
            clear hK K
            (try simp only [Act.put, List.setIfInBounds_toArray, List.set_cons_zero, List.set_cons_succ])
            have P21 : Box (V1.alloc (.cells #[.int .i64 0, .int .i64 0] 25)) V1.heap.size [.int .i64 0, .int .i64 0] := Box.new (vs := [.int .i64 0, .int .i64 0]) rfl
            have z21 := Ext.size hE
            have y21 : V1.heap.size < (V1.alloc (.cells #[.int .i64 0, .int .i64 0] 25)).heap.size := by simp
            replace hE := hE'
            clear hE' hy
            generalize V1.alloc (.cells #[.int .i64 0, .int .i64 0] 25) = V2 at *
            refine wpAnyH_ready (rs := [18]) (by kernel_rfl) (by simp) ?_
            refine (AllReadyH.cons rfl (fun K hK => ?_) AllReadyH.nil)
            go_simp
            go_at_call 45
            refine (FS.out _).mono ?_
            rintro e V3 ⟨rfl, hy⟩
            go_wp2_with fail
            have zy := Ext.size hy
            have hE' := hE.trans hy
            refine hK.out _ _ hE' (fun hHeld => ?_)
            clear hK K
            (try simp only [Act.put, List.setIfInBounds_toArray, List.set_cons_zero, List.set_cons_succ])
            replace P21 := P21.ext hy
            replace hE := hE'
            clear hE' hy
            (refine Ord.takeH 19 56 (v := ?_) rfl rfl (by kernel_rfl) (by kernel_rfl) (by kernel_rfl) (fun _ _ _ h => h) (by rfl) ?_ (by assumption) ?_; rotate_left; (intro w hSw; (try dsimp only at hSw); go_simp; (first | done | with_reducible rfl)); (try simp only [Act.put, List.setIfInBounds_toArray, List.set_cons_zero, List.set_cons_succ])); (refine Ord.takeH 20 57 (v := ?_) rfl rfl (by kernel_rfl) (by kernel_rfl) (by kernel_rfl) (fun _ _ _ h => h) (by rfl) ?_ (by assumption) ?_; rotate_left; (intro w hSw; (try dsimp only at hSw); go_simp; (first | done | with_reducible rfl)); (try simp only [Act.put, List.setIfInBounds_toArray, List.set_cons_zero, List.set_cons_succ]))
            refine wpAnyH_ready (rs := [22]) (by kernel_rfl) (by simp) ?_
            refine (AllReadyH.cons rfl (fun K hK => ?_) AllReadyH.nil)
            obtain ⟨⟨r0, r1⟩, r2, r3⟩ := P21.two
            go_simp
            have hE' : Ext w6 ((V3.setCell ⟨V1.heap.size, 0, none⟩ (.int .i64 (M.x + E))).setCell ⟨V1.heap.size, 1, none⟩ (.int .i64 (M.y - S))) := ((hE.setNew (by first | omega | (simp; omega) | simp) _).setNew (by first | omega | (simp; omega) | simp) _)
            refine hK.out _ _ hE' (fun hHeld => ?_)
            clear hK K r0 r1 r2 r3
            (try simp only [Act.put, List.setIfInBounds_toArray, List.set_cons_zero, List.set_cons_succ])
            replace P21 := P21.set2 (u := .int .i64 (M.x + E)) (v := .int .i64 (M.y - S))
            replace hE := hE'
            clear hE'
            generalize ((V3.setCell ⟨V1.heap.size, 0, none⟩ (.int .i64 (M.x + E))).setCell ⟨V1.heap.size, 1, none⟩ (.int .i64 (M.y - S))) = V4 at *
            refine wpAnyH_done (by kernel_rfl) ?_ _
            go_wp2_with fail; go_meet; exact ⟨⟨_, rfl, by omega, P21⟩, hE⟩
        · go_simp
          have hy : Ext V0 (V0.alloc (.cells #[.int .i64 0, .int .i64 0] 25)) := (Ext.refl V0).alloc _
          have hE' := hE.trans hy
          refine hK.out _ _ hE' (fun hHeld => ?_)
          clear hK K
          (try simp only [Act.put, List.setIfInBounds_toArray, List.set_cons_zero, List.set_cons_succ])
          have P21 : Box (V0.alloc (.cells #[.int .i64 0, .int .i64 0] 25)) V0.heap.size [.int .i64 0, .int .i64 0] := Box.new (vs := [.int .i64 0, .int .i64 0]) rfl
          have z21 := Ext.size hE
          have y21 : V0.heap.size < (V0.alloc (.cells #[.int .i64 0, .int .i64 0] 25)).heap.size := by simp
          replace hE := hE'
          clear hE' hy
          generalize V0.alloc (.cells #[.int .i64 0, .int .i64 0] 25) = V1 at *
          refine wpAnyH_ready (rs := [8]) (by kernel_rfl) (by simp) ?_
          refine (AllReadyH.cons rfl (fun K hK => ?_) AllReadyH.nil)
          go_simp
          go_at_call 45
          refine (FE.out _).mono ?_
          rintro e V2 ⟨rfl, hy⟩
          go_wp2_with fail
          have zy := Ext.size hy
          have hE' := hE.trans hy
          refine hK.out _ _ hE' (fun hHeld => ?_)
          clear hK K
          (try simp only [Act.put, List.setIfInBounds_toArray, List.set_cons_zero, List.set_cons_succ])
          replace P21 := P21.ext hy
          replace hE := hE'
          clear hE' hy
          (refine Ord.takeH 9 46 (v := ?_) rfl rfl (by kernel_rfl) (by kernel_rfl) (by kernel_rfl) (fun _ _ _ h => h) (by rfl) ?_ (by assumption) ?_; rotate_left; (intro w hSw; (try dsimp only at hSw); go_simp; (first | done | with_reducible rfl)); (try simp only [Act.put, List.setIfInBounds_toArray, List.set_cons_zero, List.set_cons_succ]))
          refine wpAnyH_ready (rs := [18]) (by kernel_rfl) (by simp) ?_
          refine (AllReadyH.cons rfl (fun K hK => ?_) AllReadyH.nil)
          go_simp
          go_at_call 45
          refine (FS.out _).mono ?_
          rintro e V3 ⟨rfl, hy⟩
          go_wp2_with fail
          have zy := Ext.size hy
          have hE' := hE.trans hy
          refine hK.out _ _ hE' (fun hHeld => ?_)
          clear hK K
          (try simp only [Act.put, List.setIfInBounds_toArray, List.set_cons_zero, List.set_cons_succ])
          replace P21 := P21.ext hy
          replace hE := hE'
          clear hE' hy
          (refine Ord.takeH 19 56 (v := ?_) rfl rfl (by kernel_rfl) (by kernel_rfl) (by kernel_rfl) (fun _ _ _ h => h) (by rfl) ?_ (by assumption) ?_; rotate_left; (intro w hSw; (try dsimp only at hSw); go_simp; (first | done | with_reducible rfl)); (try simp only [Act.put, List.setIfInBounds_toArray, List.set_cons_zero, List.set_cons_succ])); (refine Ord.takeH 20 57 (v := ?_) rfl rfl (by kernel_rfl) (by kernel_rfl) (by kernel_rfl) (fun _ _ _ h => h) (by rfl) ?_ (by assumption) ?_; rotate_left; (intro w hSw; (try dsimp only at hSw); go_simp; (first | done | with_reducible rfl)); (try simp only [Act.put, List.setIfInBounds_toArray, List.set_cons_zero, List.set_cons_succ]))
          refine wpAnyH_ready (rs := [22]) (by kernel_rfl) (by simp) ?_
          refine (AllReadyH.cons rfl (fun K hK => ?_) AllReadyH.nil)
          obtain ⟨⟨r0, r1⟩, r2, r3⟩ := P21.two
          go_simp
          have hE' : Ext w6 ((V3.setCell ⟨V0.heap.size, 0, none⟩ (.int .i64 (M.x + E))).setCell ⟨V0.heap.size, 1, none⟩ (.int .i64 (M.y - S))) := ((hE.setNew (by first | omega | (simp; omega) | simp) _).setNew (by first | omega | (simp; omega) | simp) _)
          refine hK.out _ _ hE' (fun hHeld => ?_)
          clear hK K r0 r1 r2 r3
          (try simp only [Act.put, List.setIfInBounds_toArray, List.set_cons_zero, List.set_cons_succ])
          replace P21 := P21.set2 (u := .int .i64 (M.x + E)) (v := .int .i64 (M.y - S))
          replace hE := hE'
          clear hE'
          generalize ((V3.setCell ⟨V0.heap.size, 0, none⟩ (.int .i64 (M.x + E))).setCell ⟨V0.heap.size, 1, none⟩ (.int .i64 (M.y - S))) = V4 at *
          refine wpAnyH_done (by kernel_rfl) ?_ _
          go_wp2_with fail; go_meet; exact ⟨⟨_, rfl, by omega, P21⟩, hE⟩
      case rest =>
        obtain ⟨⟨Bq, rfl, hBq, Pq⟩, X7⟩ := hcut
        obtain ⟨⟨g0, g1⟩, _⟩ := Pq.two
        replace m0 := X7.cellOf m0
        replace m1 := X7.cellOf m1
        replace m2 := X7.cellOf m2
        replace m3 := X7.cellOf m3
        have X8 := X6.trans X7
        have z8 := Ext.size X8
        have k1 : ∀ A, (wc.alloc A).cell? ⟨w.heap.size + 1 + 1, 1, none⟩ = some (.int .i64 M.x) := fun A => ((Ext.refl wc).alloc A).cellOf m1
        have k2 : ∀ A, (wc.alloc A).cell? ⟨w.heap.size + 1 + 1, 2, none⟩ = some (.int .i64 M.y) := fun A => ((Ext.refl wc).alloc A).cellOf m2
        have k3 : ∀ A, (wc.alloc A).cell? ⟨w.heap.size + 1 + 1, 3, none⟩ = some (.int .i64 _) := fun A => ((Ext.refl wc).alloc A).cellOf m3
        have k4 : ∀ A, (wc.alloc A).cell? ⟨Bq, 0, none⟩ = some (.int .i64 (M.x + E)) := fun A => ((Ext.refl wc).alloc A).cellOf g0
        have k5 : ∀ A, (wc.alloc A).cell? ⟨Bq, 1, none⟩ = some (.int .i64 (M.y - S)) := fun A => ((Ext.refl wc).alloc A).cellOf g1
        clear em0 em1 em2 em3 ed0 ed1 d0 d1 m4
        go_upto_region 11 with fail
        have n8 : wc.heap.size ≠ w.heap.size + 1 := by omega
        have S0 : ResB W1 (w.heap.size + 1) 4 wc.heap.size [.int .i64 M.x, .int .i64 M.y, .int .i64 (M.x + E), .int .i64 (M.y - S)] (wc.alloc (.cells #[.int .i64 M.x, .int .i64 M.y, .int .i64 (M.x + E), .int .i64 (M.y - S)] 27)) :=
          ⟨⟨X13.out.trans (X8.alloc _), by omega, fun j hj => by
            have q := (BL.out.ext (X8.alloc (.cells #[.int .i64 M.x, .int .i64 M.y, .int .i64 (M.x + E), .int .i64 (M.y - S)] 27))) j
            match j, hj with
            | 0, _ => exact ⟨_, q _ rfl⟩
            | 1, _ => exact ⟨_, q _ rfl⟩
            | 2, _ => exact ⟨_, q _ rfl⟩
            | 3, _ => exact ⟨_, q _ rfl⟩⟩, n8, Box.new4 rfl⟩
        clear k1 k2 k3 k4 k5
        generalize wc.alloc (.cells #[.int .i64 M.x, .int .i64 M.y, .int .i64 (M.x + E), .int .i64 (M.y - S)] 27) = V at *
        have ea : ∀ w', ResB W1 (w.heap.size + 1) 4 wc.heap.size [.int .i64 M.x, .int .i64 M.y, .int .i64 (M.x + E), .int .i64 (M.y - S)] w' → w'.cell? ⟨wc.heap.size, 0, none⟩ = some (.int .i64 M.x) := fun w' h => h.2.2.four.1.1
        have eb : ∀ w', ResB W1 (w.heap.size + 1) 4 wc.heap.size [.int .i64 M.x, .int .i64 M.y, .int .i64 (M.x + E), .int .i64 (M.y - S)] w' → w'.cell? ⟨wc.heap.size, 1, none⟩ = some (.int .i64 M.y) := fun w' h => h.2.2.four.1.2.1
        have ec : ∀ w', ResB W1 (w.heap.size + 1) 4 wc.heap.size [.int .i64 M.x, .int .i64 M.y, .int .i64 (M.x + E), .int .i64 (M.y - S)] w' → w'.cell? ⟨wc.heap.size, 2, none⟩ = some (.int .i64 (M.x + E)) := fun w' h => h.2.2.four.1.2.2.1
        have ee : ∀ w', ResB W1 (w.heap.size + 1) 4 wc.heap.size [.int .i64 M.x, .int .i64 M.y, .int .i64 (M.x + E), .int .i64 (M.y - S)] w' → w'.cell? ⟨wc.heap.size, 3, none⟩ = some (.int .i64 (M.y - S)) := fun w' h => h.2.2.four.1.2.2.2
        refine wp_region_held_drew (S := (ResB W1 (w.heap.size + 1) 4 wc.heap.size [.int .i64 M.x, .int .i64 M.y, .int .i64 (M.x + E), .int .i64 (M.y - S)])) (by kernel_rfl) (by (try dsimp only); first | go_keep | exact (Ext.refl _).drew | exact Res.new2.drew | exact Res.new4.drew | exact ResB.drew (by assumption) | exact ResC.drew (by assumption) | assumption | exact Ext.drew (by assumption) | exact Res.drew (by assumption)) (fun hHeld => ?_)
        (refine Ord.takeH 0 69 (v := ?_) rfl rfl (by kernel_rfl) (by kernel_rfl) (by kernel_rfl) (fun _ _ _ h => h) (by rfl) ?_ (by assumption) ?_; rotate_left; (intro w hSw; (try dsimp only at hSw); go_simp; (first | done | with_reducible rfl)); (try simp only [Act.put, List.setIfInBounds_toArray, List.set_cons_zero, List.set_cons_succ]))
        (refine Ord.takeH 1 70 (v := ?_) rfl rfl (by kernel_rfl) (by kernel_rfl) (by kernel_rfl) (fun _ _ _ h => h) (by rfl) ?_ (by assumption) ?_; rotate_left; (intro w hSw; (try dsimp only at hSw); go_simp; (first | done | with_reducible rfl)); (try simp only [Act.put, List.setIfInBounds_toArray, List.set_cons_zero, List.set_cons_succ]))
        (refine wpAnyH_ready (rs := [2]) (by kernel_rfl) (by simp) ?_; refine AllReadyH.cons rfl (fun K hK => ?_) AllReadyH.nil; go_simp; (go_at_call 38; refine (isLine_spec _ _ _ _ _).mono ?_; rintro e w7 ⟨rfl, hy⟩); go_wp2_with fail; (refine hK.out _ _ (by first | assumption | exact Ext.trans (by assumption) hy | exact Res.ext (by assumption) hy | exact ResB.ext (by assumption) hy | exact ResC.ext (by assumption) hy | (go_split_ands; (repeat' apply And.intro) <;> exact Ext.cellOf hy (by assumption))) (fun hHeld => ?_)); clear hK K; (try simp only [Act.put, List.setIfInBounds_toArray, List.set_cons_zero, List.set_cons_succ]))
        ((first | ((first | refine Exists.elim (Res.two hHeld) (fun rx rh => ?_) | refine Exists.elim (ResC.two hHeld) (fun rx rh => ?_) | refine Exists.elim (Res.two hHeld.1) (fun rx rh => ?_)); refine Exists.elim rh (fun ry rb => ?_); have r0 := rb.two.1.1; have r1 := rb.two.1.2; have r2 := rb.two.2.1; have r3 := rb.two.2.2; clear rh) | ((first | refine Exists.elim (Res.four hHeld) (fun rx rh => ?_) | refine Exists.elim (Res.four hHeld.1) (fun rx rh => ?_)); refine Exists.elim rh (fun ry rh => ?_); refine Exists.elim rh (fun rz rh => ?_); refine Exists.elim rh (fun ru rb => ?_); have r0 := rb.four.1.1; have r1 := rb.four.1.2.1; have r2 := rb.four.1.2.2.1; have r3 := rb.four.1.2.2.2; have r4 := rb.four.2.1; have r5 := rb.four.2.2.1; have r6 := rb.four.2.2.2.1; have r7 := rb.four.2.2.2.2; clear rh) | (refine Exists.elim (Res.three hHeld) (fun rx rh => ?_); refine Exists.elim rh (fun ry rh => ?_); refine Exists.elim rh (fun rz rb => ?_); have r0 := rb.three'.1.1; have r1 := rb.three'.1.2.1; have r2 := rb.three'.1.2.2; have r3 := rb.three'.2.1; have r4 := rb.three'.2.2.1; have r5 := rb.three'.2.2.2; clear rh; (try simp only [World.cell?_drew, World.frozen?_drew] at r0 r1 r2 r3 r4 r5)) | (refine Exists.elim (Res.five hHeld) (fun rx rh => ?_); refine Exists.elim rh (fun ry rh => ?_); refine Exists.elim rh (fun rz rh => ?_); refine Exists.elim rh (fun ru rh => ?_); refine Exists.elim rh (fun rt rb => ?_); have r0 := rb.five.1.1; have r1 := rb.five.1.2.1; have r2 := rb.five.1.2.2.1; have r3 := rb.five.1.2.2.2.1; have r4 := rb.five.1.2.2.2.2; have r5 := rb.five.2.1; have r6 := rb.five.2.2.1; have r7 := rb.five.2.2.2.1; have r8 := rb.five.2.2.2.2.1; have r9 := rb.five.2.2.2.2.2; clear rh; (try simp only [World.cell?_drew, World.frozen?_drew] at r0 r1 r2 r3 r4 r5 r6 r7 r8 r9)) | (refine Exists.elim (SD.one hHeld) (fun rx rh => ?_); have r0 := rh.1; have r1 := rh.2; clear rh)); refine wpAnyH_ready (rs := [3]) (by kernel_rfl) (by simp) ?_; refine AllReadyH.cons rfl (fun K hK => ?_) AllReadyH.nil; go_simp; (refine hK.out _ _ (by first | with_reducible exact SD.set hHeld _ | with_reducible exact Res.set (Res.set hHeld _ _) _ _ | with_reducible exact ResB.set (ResB.set hHeld _ _) _ _ | with_reducible exact ResC.set (ResC.set hHeld _ _) _ _ | with_reducible exact Res.set (Res.set (Res.set (Res.set hHeld _ _) _ _) _ _) _ _ | with_reducible exact ResB.set (ResB.set (ResB.set (ResB.set hHeld _ _) _ _) _ _) _ _ | with_reducible exact Res.set (Res.set (Res.set hHeld _ _) _ _) _ _ | with_reducible exact Res.set (Res.set (Res.set (Res.set (Res.set hHeld _ _) _ _) _ _) _ _) _ _) (fun hHeld => ?_)); clear hK K; (try simp only [Act.put, List.setIfInBounds_toArray, List.set_cons_zero, List.set_cons_succ]))
        (refine Ord.takeH 4 5 (v := ?_) rfl rfl (by kernel_rfl) (by kernel_rfl) (by kernel_rfl) (fun _ _ _ h => h) (by rfl) ?_ (by assumption) ?_; rotate_left; (intro w hSw; (try dsimp only at hSw); go_simp; (first | done | with_reducible rfl)); (try simp only [Act.put, List.setIfInBounds_toArray, List.set_cons_zero, List.set_cons_succ]))
        refine wpAnyH_done (by kernel_rfl) ?_ _
        go_wp2
        rw [HR2.out, HB.out]
        exact ll_done (l := ⟨M.x, M.y, M.x + E, M.y - S⟩) (rb.set4 (a := .int .i64 M.x) (b := .int .i64 M.y) (c := .int .i64 (M.x + E)) (d := .int .i64 (M.y - S))) (X1.out.trans hHeld.1.1) rfl rfl
    · skip
      obtain ⟨a1, a2⟩ := mul_bd 2000000 50000 e1 (show -50000 ≤ -(10 * M.z) ∧ -(10 * M.z) ≤ 50000 by omega)
      obtain ⟨b1, b2⟩ := mul_bd 2000000 50000 e0 (show -50000 ≤ -(10 * M.z) ∧ -(10 * M.z) ≤ 50000 by omega)
      simp only [Int.reduceMul, Int.reduceNeg] at a1 a2 b1 b2
      obtain ⟨c1, c2⟩ := flo_bd n1 100000000000 a1 a2
      obtain ⟨d3, d4⟩ := flo_bd n1 100000000000 b1 b2
      have FE := Lib.hid (fun w => floorE (dy * (-(10 * M.z))) N w n1 (by omega) (by omega))
      have FS := Lib.hid (fun w => floorE (dx * (-(10 * M.z))) N w n1 (by omega) (by omega))
      obtain ⟨E, hE⟩ : ∃ E, E = flo (dy * (-(10 * M.z))) N := ⟨_, rfl⟩
      obtain ⟨S, hS⟩ : ∃ S, S = flo (dx * (-(10 * M.z))) N := ⟨_, rfl⟩
      rw [← hE] at FE c1 c2
      rw [← hS] at FS d3 d4
      unfold Co at mx my
      have T1 : IntKind.i64.wrap (M.x + E) = M.x + E := IntWalk.i64_in _ (by omega)
      have T2 : IntKind.i64.wrap (M.y - S) = M.y - S := IntWalk.i64_in _ (by omega)
      have T3 : IntKind.i64.wrap (dy * (-(10 * M.z))) = dy * (-(10 * M.z)) := IntWalk.i64_in _ (by omega)
      have T4 : IntKind.i64.wrap (dx * (-(10 * M.z))) = dx * (-(10 * M.z)) := IntWalk.i64_in _ (by omega)
      have T5 : IntKind.i64.wrap (10 * M.z) = 10 * M.z := IntWalk.i64_in _ (by omega)
      have T6 : IntKind.i64.wrap (-(10 * M.z)) = -(10 * M.z) := IntWalk.i64_in _ (by omega)
      have HR2 := Lib.hid (show rlL l k ms i = (⟨M.x + E, M.y - S, M.x, M.y⟩ : L4) by rw [HR.out, rdL_star hs, ← X0 (-(10 * M.z)), ← Y0 (-(10 * M.z)), hE, hS])
      replace HB := Lib.hid (show rlB l k ms i = sgB (M.x + E) (M.y - S) M.x M.y by rw [HB.out, HR2.out])
      clear hE hS X0 Y0
      clear HR
      have m0 := em0 _ X6
      have m1 := em1 _ X6
      have m2 := em2 _ X6
      have m3 := em3 _ X6
      have m4 := em4 _ X6
      rw [hs] at m3
      clear ec0 ec1 ec2 ec3 ec4 ec5 ec6 ec7 ec8 em0 em1 em2 em3 em4
      go_upto_region 7 with fail
      have em0 : ∀ w', Ext w6 w' → w'.cell? ⟨w.heap.size + 1 + 1, 0, none⟩ = some (.string M.n) := fun w' h => h.cellOf m0
      have em1 : ∀ w', Ext w6 w' → w'.cell? ⟨w.heap.size + 1 + 1, 1, none⟩ = some (.int .i64 M.x) := fun w' h => h.cellOf m1
      have em2 : ∀ w', Ext w6 w' → w'.cell? ⟨w.heap.size + 1 + 1, 2, none⟩ = some (.int .i64 M.y) := fun w' h => h.cellOf m2
      have em3 : ∀ w', Ext w6 w' → w'.cell? ⟨w.heap.size + 1 + 1, 3, none⟩ = some (.int .i64 2) := fun w' h => h.cellOf m3
      have ed0 : ∀ w', Ext w6 w' → w'.cell? ⟨B7, 0, none⟩ = some (.int .i64 dx) := fun w' h => h.cellOf d0
      have ed1 : ∀ w', Ext w6 w' → w'.cell? ⟨B7, 1, none⟩ = some (.int .i64 dy) := fun w' h => h.cellOf d1
      go_cut [10] (fun s wx => (∃ B, s = .pointer (some ⟨B, 0, none⟩) ∧ w.heap.size + 1 + 1 < B ∧ Box wx B [.int .i64 (M.x + E), .int .i64 (M.y - S)]) ∧ Ext w6 wx)
      case first =>
        clear m0 m1 m2 m3 m4 d0 d1
        refine wp_region_held_drew (S := fun w' => Ext w6 w') (by kernel_rfl) (by (try dsimp only); exact Ext.drew (Ext.refl w6)) (fun hHeld => ?_)
        have hE : Ext w6 w6.drew := Ext.drew (Ext.refl w6)
        obtain ⟨V0, hV0⟩ : ∃ V0, V0 = w6.drew := ⟨_, rfl⟩
        rw [← hV0] at hE hHeld ⊢
        clear hV0
        (refine Ord.takeH 0 37 (v := ?_) rfl rfl (by kernel_rfl) (by kernel_rfl) (by kernel_rfl) (fun _ _ _ h => h) (by rfl) ?_ (by assumption) ?_; rotate_left; (intro w hSw; (try dsimp only at hSw); go_simp; (first | done | with_reducible rfl)); (try simp only [Act.put, List.setIfInBounds_toArray, List.set_cons_zero, List.set_cons_succ])); (refine Ord.takeH 3 40 (v := ?_) rfl rfl (by kernel_rfl) (by kernel_rfl) (by kernel_rfl) (fun _ _ _ h => h) (by rfl) ?_ (by assumption) ?_; rotate_left; (intro w hSw; (try dsimp only at hSw); go_simp; (first | done | with_reducible rfl)); (try simp only [Act.put, List.setIfInBounds_toArray, List.set_cons_zero, List.set_cons_succ])); (refine Ord.takeH 5 42 (v := ?_) rfl rfl (by kernel_rfl) (by kernel_rfl) (by kernel_rfl) (fun _ _ _ h => h) (by rfl) ?_ (by assumption) ?_; rotate_left; (intro w hSw; (try dsimp only at hSw); go_simp; (first | done | with_reducible rfl)); (try simp only [Act.put, List.setIfInBounds_toArray, List.set_cons_zero, List.set_cons_succ])); (refine Ord.takeH 7 44 (v := ?_) rfl rfl (by kernel_rfl) (by kernel_rfl) (by kernel_rfl) (fun _ _ _ h => h) (by rfl) ?_ (by assumption) ?_; rotate_left; (intro w hSw; (try dsimp only at hSw); go_simp; (first | done | with_reducible rfl)); (try simp only [Act.put, List.setIfInBounds_toArray, List.set_cons_zero, List.set_cons_succ])); (refine Ord.takeH 10 47 (v := ?_) rfl rfl (by kernel_rfl) (by kernel_rfl) (by kernel_rfl) (fun _ _ _ h => h) (by rfl) ?_ (by assumption) ?_; rotate_left; (intro w hSw; (try dsimp only at hSw); go_simp; (first | done | with_reducible rfl)); (try simp only [Act.put, List.setIfInBounds_toArray, List.set_cons_zero, List.set_cons_succ])); (refine Ord.takeH 13 50 (v := ?_) rfl rfl (by kernel_rfl) (by kernel_rfl) (by kernel_rfl) (fun _ _ _ h => h) (by rfl) ?_ (by assumption) ?_; rotate_left; (intro w hSw; (try dsimp only at hSw); go_simp; (first | done | with_reducible rfl)); (try simp only [Act.put, List.setIfInBounds_toArray, List.set_cons_zero, List.set_cons_succ])); (refine Ord.takeH 15 52 (v := ?_) rfl rfl (by kernel_rfl) (by kernel_rfl) (by kernel_rfl) (fun _ _ _ h => h) (by rfl) ?_ (by assumption) ?_; rotate_left; (intro w hSw; (try dsimp only at hSw); go_simp; (first | done | with_reducible rfl)); (try simp only [Act.put, List.setIfInBounds_toArray, List.set_cons_zero, List.set_cons_succ])); (refine Ord.takeH 17 54 (v := ?_) rfl rfl (by kernel_rfl) (by kernel_rfl) (by kernel_rfl) (fun _ _ _ h => h) (by rfl) ?_ (by assumption) ?_; rotate_left; (intro w hSw; (try dsimp only at hSw); go_simp; (first | done | with_reducible rfl)); (try simp only [Act.put, List.setIfInBounds_toArray, List.set_cons_zero, List.set_cons_succ])); (refine Ord.takeH 1 38 (v := ?_) rfl rfl (by kernel_rfl) (by kernel_rfl) (by kernel_rfl) (fun _ _ _ h => h) (by rfl) ?_ (by assumption) ?_; rotate_left; (intro w hSw; (try dsimp only at hSw); go_simp; (first | done | with_reducible rfl)); (try simp only [Act.put, List.setIfInBounds_toArray, List.set_cons_zero, List.set_cons_succ])); (refine Ord.takeH 4 41 (v := ?_) rfl rfl (by kernel_rfl) (by kernel_rfl) (by kernel_rfl) (fun _ _ _ h => h) (by rfl) ?_ (by assumption) ?_; rotate_left; (intro w hSw; (try dsimp only at hSw); go_simp; (first | done | with_reducible rfl)); (try simp only [Act.put, List.setIfInBounds_toArray, List.set_cons_zero, List.set_cons_succ])); (refine Ord.takeH 11 48 (v := ?_) rfl rfl (by kernel_rfl) (by kernel_rfl) (by kernel_rfl) (fun _ _ _ h => h) (by rfl) ?_ (by assumption) ?_; rotate_left; (intro w hSw; (try dsimp only at hSw); go_simp; (first | done | with_reducible rfl)); (try simp only [Act.put, List.setIfInBounds_toArray, List.set_cons_zero, List.set_cons_succ])); (refine Ord.takeH 14 51 (v := ?_) rfl rfl (by kernel_rfl) (by kernel_rfl) (by kernel_rfl) (fun _ _ _ h => h) (by rfl) ?_ (by assumption) ?_; rotate_left; (intro w hSw; (try dsimp only at hSw); go_simp; (first | done | with_reducible rfl)); (try simp only [Act.put, List.setIfInBounds_toArray, List.set_cons_zero, List.set_cons_succ])); (refine Ord.takeH 2 39 (v := ?_) rfl rfl (by kernel_rfl) (by kernel_rfl) (by kernel_rfl) (fun _ _ _ h => h) (by rfl) ?_ (by assumption) ?_; rotate_left; (intro w hSw; (try dsimp only at hSw); go_simp; (first | done | with_reducible rfl)); (try simp only [Act.put, List.setIfInBounds_toArray, List.set_cons_zero, List.set_cons_succ])); (refine Ord.takeH 6 43 (v := ?_) rfl rfl (by kernel_rfl) (by kernel_rfl) (by kernel_rfl) (fun _ _ _ h => h) (by rfl) ?_ (by assumption) ?_; rotate_left; (intro w hSw; (try dsimp only at hSw); go_simp; (first | done | with_reducible rfl)); (try simp only [Act.put, List.setIfInBounds_toArray, List.set_cons_zero, List.set_cons_succ])); (refine Ord.takeH 12 49 (v := ?_) rfl rfl (by kernel_rfl) (by kernel_rfl) (by kernel_rfl) (fun _ _ _ h => h) (by rfl) ?_ (by assumption) ?_; rotate_left; (intro w hSw; (try dsimp only at hSw); go_simp; (first | done | with_reducible rfl)); (try simp only [Act.put, List.setIfInBounds_toArray, List.set_cons_zero, List.set_cons_succ])); (refine Ord.takeH 16 53 (v := ?_) rfl rfl (by kernel_rfl) (by kernel_rfl) (by kernel_rfl) (fun _ _ _ h => h) (by rfl) ?_ (by assumption) ?_; rotate_left; (intro w hSw; (try dsimp only at hSw); go_simp; (first | done | with_reducible rfl)); (try simp only [Act.put, List.setIfInBounds_toArray, List.set_cons_zero, List.set_cons_succ]))
        refine wpAnyH_ready (rs := [8, 21]) (by kernel_rfl) (by simp) ?_
        refine (AllReadyH.cons rfl (fun K hK => ?_) (AllReadyH.cons rfl (fun K hK => ?_) AllReadyH.nil))
        · go_simp
          go_at_call 45
          refine (FE.out _).mono ?_
          rintro e V1 ⟨rfl, hy⟩
          go_wp2_with fail
          have zy := Ext.size hy
          have hE' := hE.trans hy
          refine hK.out _ _ hE' (fun hHeld => ?_)
          clear hK K
          (try simp only [Act.put, List.setIfInBounds_toArray, List.set_cons_zero, List.set_cons_succ])
          replace hE := hE'
          clear hE' hy
          (refine Ord.takeH 9 46 (v := ?_) rfl rfl (by kernel_rfl) (by kernel_rfl) (by kernel_rfl) (fun _ _ _ h => h) (by rfl) ?_ (by assumption) ?_; rotate_left; (intro w hSw; (try dsimp only at hSw); go_simp; (first | done | with_reducible rfl)); (try simp only [Act.put, List.setIfInBounds_toArray, List.set_cons_zero, List.set_cons_succ]))
          refine wpAnyH_ready (rs := [18, 21]) (by kernel_rfl) (by simp) ?_
          refine (AllReadyH.cons rfl (fun K hK => ?_) (AllReadyH.cons rfl (fun K hK => ?_) AllReadyH.nil))
          · go_simp
            go_at_call 45
            refine (FS.out _).mono ?_
            rintro e V2 ⟨rfl, hy⟩
            go_wp2_with fail
            have zy := Ext.size hy
            have hE' := hE.trans hy
            refine hK.out _ _ hE' (fun hHeld => ?_)
            clear hK K
            (try simp only [Act.put, List.setIfInBounds_toArray, List.set_cons_zero, List.set_cons_succ])
            replace hE := hE'
            clear hE' hy
            (refine Ord.takeH 19 56 (v := ?_) rfl rfl (by kernel_rfl) (by kernel_rfl) (by kernel_rfl) (fun _ _ _ h => h) (by rfl) ?_ (by assumption) ?_; rotate_left; (intro w hSw; (try dsimp only at hSw); go_simp; (first | done | with_reducible rfl)); (try simp only [Act.put, List.setIfInBounds_toArray, List.set_cons_zero, List.set_cons_succ])); (refine Ord.takeH 20 57 (v := ?_) rfl rfl (by kernel_rfl) (by kernel_rfl) (by kernel_rfl) (fun _ _ _ h => h) (by rfl) ?_ (by assumption) ?_; rotate_left; (intro w hSw; (try dsimp only at hSw); go_simp; (first | done | with_reducible rfl)); (try simp only [Act.put, List.setIfInBounds_toArray, List.set_cons_zero, List.set_cons_succ]))
            refine wpAnyH_ready (rs := [21]) (by kernel_rfl) (by simp) ?_
            refine (AllReadyH.cons rfl (fun K hK => ?_) AllReadyH.nil)
            go_simp
            have hy : Ext V2 (V2.alloc (.cells #[.int .i64 0, .int .i64 0] 25)) := (Ext.refl V2).alloc _
            have hE' := hE.trans hy
            refine hK.out _ _ hE' (fun hHeld => ?_)
            clear hK K
            (try simp only [Act.put, List.setIfInBounds_toArray, List.set_cons_zero, List.set_cons_succ])
            have P21 : Box (V2.alloc (.cells #[.int .i64 0, .int .i64 0] 25)) V2.heap.size [.int .i64 0, .int .i64 0] := Box.new (vs := [.int .i64 0, .int .i64 0]) rfl
            have z21 := Ext.size hE
            have y21 : V2.heap.size < (V2.alloc (.cells #[.int .i64 0, .int .i64 0] 25)).heap.size := by simp
            replace hE := hE'
            clear hE' hy
            generalize V2.alloc (.cells #[.int .i64 0, .int .i64 0] 25) = V3 at *
            refine wpAnyH_ready (rs := [22]) (by kernel_rfl) (by simp) ?_
            refine (AllReadyH.cons rfl (fun K hK => ?_) AllReadyH.nil)
            obtain ⟨⟨r0, r1⟩, r2, r3⟩ := P21.two
            go_simp
            have hE' : Ext w6 ((V3.setCell ⟨V2.heap.size, 0, none⟩ (.int .i64 (M.x + E))).setCell ⟨V2.heap.size, 1, none⟩ (.int .i64 (M.y - S))) := ((hE.setNew (by first | omega | (simp; omega) | simp) _).setNew (by first | omega | (simp; omega) | simp) _)
            refine hK.out _ _ hE' (fun hHeld => ?_)
            clear hK K r0 r1 r2 r3
            (try simp only [Act.put, List.setIfInBounds_toArray, List.set_cons_zero, List.set_cons_succ])
            replace P21 := P21.set2 (u := .int .i64 (M.x + E)) (v := .int .i64 (M.y - S))
            replace hE := hE'
            clear hE'
            generalize ((V3.setCell ⟨V2.heap.size, 0, none⟩ (.int .i64 (M.x + E))).setCell ⟨V2.heap.size, 1, none⟩ (.int .i64 (M.y - S))) = V4 at *
            refine wpAnyH_done (by kernel_rfl) ?_ _
            go_wp2_with fail; go_meet; exact ⟨⟨_, rfl, by omega, P21⟩, hE⟩
          · go_simp
            have hy : Ext V1 (V1.alloc (.cells #[.int .i64 0, .int .i64 0] 25)) := (Ext.refl V1).alloc _
            have hE' := hE.trans hy
            refine hK.out _ _ hE' (fun hHeld => ?_)
            clear hK K
            (try simp only [Act.put, List.setIfInBounds_toArray, List.set_cons_zero, List.set_cons_succ])
            have P21 : Box (V1.alloc (.cells #[.int .i64 0, .int .i64 0] 25)) V1.heap.size [.int .i64 0, .int .i64 0] := Box.new (vs := [.int .i64 0, .int .i64 0]) rfl
            have z21 := Ext.size hE
            have y21 : V1.heap.size < (V1.alloc (.cells #[.int .i64 0, .int .i64 0] 25)).heap.size := by simp
            replace hE := hE'
            clear hE' hy
            generalize V1.alloc (.cells #[.int .i64 0, .int .i64 0] 25) = V2 at *
            refine wpAnyH_ready (rs := [18]) (by kernel_rfl) (by simp) ?_
            refine (AllReadyH.cons rfl (fun K hK => ?_) AllReadyH.nil)
            go_simp
            go_at_call 45
            refine (FS.out _).mono ?_
            rintro e V3 ⟨rfl, hy⟩
            go_wp2_with fail
            have zy := Ext.size hy
            have hE' := hE.trans hy
            refine hK.out _ _ hE' (fun hHeld => ?_)
            clear hK K
            (try simp only [Act.put, List.setIfInBounds_toArray, List.set_cons_zero, List.set_cons_succ])
            replace P21 := P21.ext hy
            replace hE := hE'
            clear hE' hy
            (refine Ord.takeH 19 56 (v := ?_) rfl rfl (by kernel_rfl) (by kernel_rfl) (by kernel_rfl) (fun _ _ _ h => h) (by rfl) ?_ (by assumption) ?_; rotate_left; (intro w hSw; (try dsimp only at hSw); go_simp; (first | done | with_reducible rfl)); (try simp only [Act.put, List.setIfInBounds_toArray, List.set_cons_zero, List.set_cons_succ])); (refine Ord.takeH 20 57 (v := ?_) rfl rfl (by kernel_rfl) (by kernel_rfl) (by kernel_rfl) (fun _ _ _ h => h) (by rfl) ?_ (by assumption) ?_; rotate_left; (intro w hSw; (try dsimp only at hSw); go_simp; (first | done | with_reducible rfl)); (try simp only [Act.put, List.setIfInBounds_toArray, List.set_cons_zero, List.set_cons_succ]))
            refine wpAnyH_ready (rs := [22]) (by kernel_rfl) (by simp) ?_
            refine (AllReadyH.cons rfl (fun K hK => ?_) AllReadyH.nil)
            obtain ⟨⟨r0, r1⟩, r2, r3⟩ := P21.two
            go_simp
            have hE' : Ext w6 ((V3.setCell ⟨V1.heap.size, 0, none⟩ (.int .i64 (M.x + E))).setCell ⟨V1.heap.size, 1, none⟩ (.int .i64 (M.y - S))) := ((hE.setNew (by first | omega | (simp; omega) | simp) _).setNew (by first | omega | (simp; omega) | simp) _)
            refine hK.out _ _ hE' (fun hHeld => ?_)
            clear hK K r0 r1 r2 r3
            (try simp only [Act.put, List.setIfInBounds_toArray, List.set_cons_zero, List.set_cons_succ])
            replace P21 := P21.set2 (u := .int .i64 (M.x + E)) (v := .int .i64 (M.y - S))
            replace hE := hE'
            clear hE'
            generalize ((V3.setCell ⟨V1.heap.size, 0, none⟩ (.int .i64 (M.x + E))).setCell ⟨V1.heap.size, 1, none⟩ (.int .i64 (M.y - S))) = V4 at *
            refine wpAnyH_done (by kernel_rfl) ?_ _
            go_wp2_with fail; go_meet; exact ⟨⟨_, rfl, by omega, P21⟩, hE⟩
        · go_simp
          have hy : Ext V0 (V0.alloc (.cells #[.int .i64 0, .int .i64 0] 25)) := (Ext.refl V0).alloc _
          have hE' := hE.trans hy
          refine hK.out _ _ hE' (fun hHeld => ?_)
          clear hK K
          (try simp only [Act.put, List.setIfInBounds_toArray, List.set_cons_zero, List.set_cons_succ])
          have P21 : Box (V0.alloc (.cells #[.int .i64 0, .int .i64 0] 25)) V0.heap.size [.int .i64 0, .int .i64 0] := Box.new (vs := [.int .i64 0, .int .i64 0]) rfl
          have z21 := Ext.size hE
          have y21 : V0.heap.size < (V0.alloc (.cells #[.int .i64 0, .int .i64 0] 25)).heap.size := by simp
          replace hE := hE'
          clear hE' hy
          generalize V0.alloc (.cells #[.int .i64 0, .int .i64 0] 25) = V1 at *
          refine wpAnyH_ready (rs := [8]) (by kernel_rfl) (by simp) ?_
          refine (AllReadyH.cons rfl (fun K hK => ?_) AllReadyH.nil)
          go_simp
          go_at_call 45
          refine (FE.out _).mono ?_
          rintro e V2 ⟨rfl, hy⟩
          go_wp2_with fail
          have zy := Ext.size hy
          have hE' := hE.trans hy
          refine hK.out _ _ hE' (fun hHeld => ?_)
          clear hK K
          (try simp only [Act.put, List.setIfInBounds_toArray, List.set_cons_zero, List.set_cons_succ])
          replace P21 := P21.ext hy
          replace hE := hE'
          clear hE' hy
          (refine Ord.takeH 9 46 (v := ?_) rfl rfl (by kernel_rfl) (by kernel_rfl) (by kernel_rfl) (fun _ _ _ h => h) (by rfl) ?_ (by assumption) ?_; rotate_left; (intro w hSw; (try dsimp only at hSw); go_simp; (first | done | with_reducible rfl)); (try simp only [Act.put, List.setIfInBounds_toArray, List.set_cons_zero, List.set_cons_succ]))
          refine wpAnyH_ready (rs := [18]) (by kernel_rfl) (by simp) ?_
          refine (AllReadyH.cons rfl (fun K hK => ?_) AllReadyH.nil)
          go_simp
          go_at_call 45
          refine (FS.out _).mono ?_
          rintro e V3 ⟨rfl, hy⟩
          go_wp2_with fail
          have zy := Ext.size hy
          have hE' := hE.trans hy
          refine hK.out _ _ hE' (fun hHeld => ?_)
          clear hK K
          (try simp only [Act.put, List.setIfInBounds_toArray, List.set_cons_zero, List.set_cons_succ])
          replace P21 := P21.ext hy
          replace hE := hE'
          clear hE' hy
          (refine Ord.takeH 19 56 (v := ?_) rfl rfl (by kernel_rfl) (by kernel_rfl) (by kernel_rfl) (fun _ _ _ h => h) (by rfl) ?_ (by assumption) ?_; rotate_left; (intro w hSw; (try dsimp only at hSw); go_simp; (first | done | with_reducible rfl)); (try simp only [Act.put, List.setIfInBounds_toArray, List.set_cons_zero, List.set_cons_succ])); (refine Ord.takeH 20 57 (v := ?_) rfl rfl (by kernel_rfl) (by kernel_rfl) (by kernel_rfl) (fun _ _ _ h => h) (by rfl) ?_ (by assumption) ?_; rotate_left; (intro w hSw; (try dsimp only at hSw); go_simp; (first | done | with_reducible rfl)); (try simp only [Act.put, List.setIfInBounds_toArray, List.set_cons_zero, List.set_cons_succ]))
          refine wpAnyH_ready (rs := [22]) (by kernel_rfl) (by simp) ?_
          refine (AllReadyH.cons rfl (fun K hK => ?_) AllReadyH.nil)
          obtain ⟨⟨r0, r1⟩, r2, r3⟩ := P21.two
          go_simp
          have hE' : Ext w6 ((V3.setCell ⟨V0.heap.size, 0, none⟩ (.int .i64 (M.x + E))).setCell ⟨V0.heap.size, 1, none⟩ (.int .i64 (M.y - S))) := ((hE.setNew (by first | omega | (simp; omega) | simp) _).setNew (by first | omega | (simp; omega) | simp) _)
          refine hK.out _ _ hE' (fun hHeld => ?_)
          clear hK K r0 r1 r2 r3
          (try simp only [Act.put, List.setIfInBounds_toArray, List.set_cons_zero, List.set_cons_succ])
          replace P21 := P21.set2 (u := .int .i64 (M.x + E)) (v := .int .i64 (M.y - S))
          replace hE := hE'
          clear hE'
          generalize ((V3.setCell ⟨V0.heap.size, 0, none⟩ (.int .i64 (M.x + E))).setCell ⟨V0.heap.size, 1, none⟩ (.int .i64 (M.y - S))) = V4 at *
          refine wpAnyH_done (by kernel_rfl) ?_ _
          go_wp2_with fail; go_meet; exact ⟨⟨_, rfl, by omega, P21⟩, hE⟩
      case rest =>
        obtain ⟨⟨Bq, rfl, hBq, Pq⟩, X7⟩ := hcut
        obtain ⟨⟨g0, g1⟩, _⟩ := Pq.two
        replace m0 := X7.cellOf m0
        replace m1 := X7.cellOf m1
        replace m2 := X7.cellOf m2
        replace m3 := X7.cellOf m3
        have X8 := X6.trans X7
        have z8 := Ext.size X8
        have k1 : ∀ A, (wc.alloc A).cell? ⟨w.heap.size + 1 + 1, 1, none⟩ = some (.int .i64 M.x) := fun A => ((Ext.refl wc).alloc A).cellOf m1
        have k2 : ∀ A, (wc.alloc A).cell? ⟨w.heap.size + 1 + 1, 2, none⟩ = some (.int .i64 M.y) := fun A => ((Ext.refl wc).alloc A).cellOf m2
        have k3 : ∀ A, (wc.alloc A).cell? ⟨w.heap.size + 1 + 1, 3, none⟩ = some (.int .i64 _) := fun A => ((Ext.refl wc).alloc A).cellOf m3
        have k4 : ∀ A, (wc.alloc A).cell? ⟨Bq, 0, none⟩ = some (.int .i64 (M.x + E)) := fun A => ((Ext.refl wc).alloc A).cellOf g0
        have k5 : ∀ A, (wc.alloc A).cell? ⟨Bq, 1, none⟩ = some (.int .i64 (M.y - S)) := fun A => ((Ext.refl wc).alloc A).cellOf g1
        clear em0 em1 em2 em3 ed0 ed1 d0 d1 m4
        go_upto_region 11 with fail
        have n8 : wc.heap.size ≠ w.heap.size + 1 := by omega
        have S0 : ResB W1 (w.heap.size + 1) 4 wc.heap.size [.int .i64 (M.x + E), .int .i64 (M.y - S), .int .i64 M.x, .int .i64 M.y] (wc.alloc (.cells #[.int .i64 (M.x + E), .int .i64 (M.y - S), .int .i64 M.x, .int .i64 M.y] 27)) :=
          ⟨⟨X13.out.trans (X8.alloc _), by omega, fun j hj => by
            have q := (BL.out.ext (X8.alloc (.cells #[.int .i64 (M.x + E), .int .i64 (M.y - S), .int .i64 M.x, .int .i64 M.y] 27))) j
            match j, hj with
            | 0, _ => exact ⟨_, q _ rfl⟩
            | 1, _ => exact ⟨_, q _ rfl⟩
            | 2, _ => exact ⟨_, q _ rfl⟩
            | 3, _ => exact ⟨_, q _ rfl⟩⟩, n8, Box.new4 rfl⟩
        clear k1 k2 k3 k4 k5
        generalize wc.alloc (.cells #[.int .i64 (M.x + E), .int .i64 (M.y - S), .int .i64 M.x, .int .i64 M.y] 27) = V at *
        have ea : ∀ w', ResB W1 (w.heap.size + 1) 4 wc.heap.size [.int .i64 (M.x + E), .int .i64 (M.y - S), .int .i64 M.x, .int .i64 M.y] w' → w'.cell? ⟨wc.heap.size, 0, none⟩ = some (.int .i64 (M.x + E)) := fun w' h => h.2.2.four.1.1
        have eb : ∀ w', ResB W1 (w.heap.size + 1) 4 wc.heap.size [.int .i64 (M.x + E), .int .i64 (M.y - S), .int .i64 M.x, .int .i64 M.y] w' → w'.cell? ⟨wc.heap.size, 1, none⟩ = some (.int .i64 (M.y - S)) := fun w' h => h.2.2.four.1.2.1
        have ec : ∀ w', ResB W1 (w.heap.size + 1) 4 wc.heap.size [.int .i64 (M.x + E), .int .i64 (M.y - S), .int .i64 M.x, .int .i64 M.y] w' → w'.cell? ⟨wc.heap.size, 2, none⟩ = some (.int .i64 M.x) := fun w' h => h.2.2.four.1.2.2.1
        have ee : ∀ w', ResB W1 (w.heap.size + 1) 4 wc.heap.size [.int .i64 (M.x + E), .int .i64 (M.y - S), .int .i64 M.x, .int .i64 M.y] w' → w'.cell? ⟨wc.heap.size, 3, none⟩ = some (.int .i64 M.y) := fun w' h => h.2.2.four.1.2.2.2
        refine wp_region_held_drew (S := (ResB W1 (w.heap.size + 1) 4 wc.heap.size [.int .i64 (M.x + E), .int .i64 (M.y - S), .int .i64 M.x, .int .i64 M.y])) (by kernel_rfl) (by (try dsimp only); first | go_keep | exact (Ext.refl _).drew | exact Res.new2.drew | exact Res.new4.drew | exact ResB.drew (by assumption) | exact ResC.drew (by assumption) | assumption | exact Ext.drew (by assumption) | exact Res.drew (by assumption)) (fun hHeld => ?_)
        (refine Ord.takeH 0 69 (v := ?_) rfl rfl (by kernel_rfl) (by kernel_rfl) (by kernel_rfl) (fun _ _ _ h => h) (by rfl) ?_ (by assumption) ?_; rotate_left; (intro w hSw; (try dsimp only at hSw); go_simp; (first | done | with_reducible rfl)); (try simp only [Act.put, List.setIfInBounds_toArray, List.set_cons_zero, List.set_cons_succ]))
        (refine Ord.takeH 1 70 (v := ?_) rfl rfl (by kernel_rfl) (by kernel_rfl) (by kernel_rfl) (fun _ _ _ h => h) (by rfl) ?_ (by assumption) ?_; rotate_left; (intro w hSw; (try dsimp only at hSw); go_simp; (first | done | with_reducible rfl)); (try simp only [Act.put, List.setIfInBounds_toArray, List.set_cons_zero, List.set_cons_succ]))
        (refine wpAnyH_ready (rs := [2]) (by kernel_rfl) (by simp) ?_; refine AllReadyH.cons rfl (fun K hK => ?_) AllReadyH.nil; go_simp; (go_at_call 38; refine (isLine_spec _ _ _ _ _).mono ?_; rintro e w7 ⟨rfl, hy⟩); go_wp2_with fail; (refine hK.out _ _ (by first | assumption | exact Ext.trans (by assumption) hy | exact Res.ext (by assumption) hy | exact ResB.ext (by assumption) hy | exact ResC.ext (by assumption) hy | (go_split_ands; (repeat' apply And.intro) <;> exact Ext.cellOf hy (by assumption))) (fun hHeld => ?_)); clear hK K; (try simp only [Act.put, List.setIfInBounds_toArray, List.set_cons_zero, List.set_cons_succ]))
        ((first | ((first | refine Exists.elim (Res.two hHeld) (fun rx rh => ?_) | refine Exists.elim (ResC.two hHeld) (fun rx rh => ?_) | refine Exists.elim (Res.two hHeld.1) (fun rx rh => ?_)); refine Exists.elim rh (fun ry rb => ?_); have r0 := rb.two.1.1; have r1 := rb.two.1.2; have r2 := rb.two.2.1; have r3 := rb.two.2.2; clear rh) | ((first | refine Exists.elim (Res.four hHeld) (fun rx rh => ?_) | refine Exists.elim (Res.four hHeld.1) (fun rx rh => ?_)); refine Exists.elim rh (fun ry rh => ?_); refine Exists.elim rh (fun rz rh => ?_); refine Exists.elim rh (fun ru rb => ?_); have r0 := rb.four.1.1; have r1 := rb.four.1.2.1; have r2 := rb.four.1.2.2.1; have r3 := rb.four.1.2.2.2; have r4 := rb.four.2.1; have r5 := rb.four.2.2.1; have r6 := rb.four.2.2.2.1; have r7 := rb.four.2.2.2.2; clear rh) | (refine Exists.elim (Res.three hHeld) (fun rx rh => ?_); refine Exists.elim rh (fun ry rh => ?_); refine Exists.elim rh (fun rz rb => ?_); have r0 := rb.three'.1.1; have r1 := rb.three'.1.2.1; have r2 := rb.three'.1.2.2; have r3 := rb.three'.2.1; have r4 := rb.three'.2.2.1; have r5 := rb.three'.2.2.2; clear rh; (try simp only [World.cell?_drew, World.frozen?_drew] at r0 r1 r2 r3 r4 r5)) | (refine Exists.elim (Res.five hHeld) (fun rx rh => ?_); refine Exists.elim rh (fun ry rh => ?_); refine Exists.elim rh (fun rz rh => ?_); refine Exists.elim rh (fun ru rh => ?_); refine Exists.elim rh (fun rt rb => ?_); have r0 := rb.five.1.1; have r1 := rb.five.1.2.1; have r2 := rb.five.1.2.2.1; have r3 := rb.five.1.2.2.2.1; have r4 := rb.five.1.2.2.2.2; have r5 := rb.five.2.1; have r6 := rb.five.2.2.1; have r7 := rb.five.2.2.2.1; have r8 := rb.five.2.2.2.2.1; have r9 := rb.five.2.2.2.2.2; clear rh; (try simp only [World.cell?_drew, World.frozen?_drew] at r0 r1 r2 r3 r4 r5 r6 r7 r8 r9)) | (refine Exists.elim (SD.one hHeld) (fun rx rh => ?_); have r0 := rh.1; have r1 := rh.2; clear rh)); refine wpAnyH_ready (rs := [3]) (by kernel_rfl) (by simp) ?_; refine AllReadyH.cons rfl (fun K hK => ?_) AllReadyH.nil; go_simp; (refine hK.out _ _ (by first | with_reducible exact SD.set hHeld _ | with_reducible exact Res.set (Res.set hHeld _ _) _ _ | with_reducible exact ResB.set (ResB.set hHeld _ _) _ _ | with_reducible exact ResC.set (ResC.set hHeld _ _) _ _ | with_reducible exact Res.set (Res.set (Res.set (Res.set hHeld _ _) _ _) _ _) _ _ | with_reducible exact ResB.set (ResB.set (ResB.set (ResB.set hHeld _ _) _ _) _ _) _ _ | with_reducible exact Res.set (Res.set (Res.set hHeld _ _) _ _) _ _ | with_reducible exact Res.set (Res.set (Res.set (Res.set (Res.set hHeld _ _) _ _) _ _) _ _) _ _) (fun hHeld => ?_)); clear hK K; (try simp only [Act.put, List.setIfInBounds_toArray, List.set_cons_zero, List.set_cons_succ]))
        (refine Ord.takeH 4 5 (v := ?_) rfl rfl (by kernel_rfl) (by kernel_rfl) (by kernel_rfl) (fun _ _ _ h => h) (by rfl) ?_ (by assumption) ?_; rotate_left; (intro w hSw; (try dsimp only at hSw); go_simp; (first | done | with_reducible rfl)); (try simp only [Act.put, List.setIfInBounds_toArray, List.set_cons_zero, List.set_cons_succ]))
        refine wpAnyH_done (by kernel_rfl) ?_ _
        go_wp2
        rw [HR2.out, HB.out]
        exact ll_done (l := ⟨M.x + E, M.y - S, M.x, M.y⟩) (rb.set4 (a := .int .i64 (M.x + E)) (b := .int .i64 (M.y - S)) (c := .int .i64 M.x) (d := .int .i64 M.y)) (X1.out.trans hHeld.1.1) rfl rfl

end Go.Proofs.Ythaioaaonnfabaa.Crs
