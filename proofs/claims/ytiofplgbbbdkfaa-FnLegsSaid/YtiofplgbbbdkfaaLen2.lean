/- LegLengths (spec); rows of numbers: comparing, marking, looking whether the marks are held (laws). -/
import Derived.Test.YtiofplgbbbdkfaaLen
import Derived.Deep.RegionHeld3
namespace Go.Proofs.Ytiofplgbbbdkfaa.Crs
open Go.ChangeShapes Go.WideShapes Go.ChangeAt Go.RowKit Go.PlainAid
open Go.Proofs.Ytiofplgbbbdkfaa.Num Go.Proofs.Ytiofplgbbbdkfaa.Kit Go.Proofs.Ytiofplgbbbdkfaa.Pts Go.Proofs.Ytiofplgbbbdkfaa.Seg Go.Proofs.Ytiofplgbbbdkfaa.Div Go.Proofs.Ytiofplgbbbdkfaa.Root Go.Proofs.Ytiofplgbbbdkfaa.Rt
set_option linter.unusedVariables false
set_option linter.unusedSimpArgs false

/-- The stations' row, as a region reads it. -/
def StRow (b g cp : Nat) (l k : L4) (ms : List M5) (w : World) : Prop := w.ownsRow b 25 2 (.slice (some ⟨g, 0, none⟩) (ms.length + 2) cp) (ms.length + 2) (cellsP (stL l k ms))
theorem StRow.ext {b g cp : Nat} {l k : L4} {ms : List M5} {w w' : World} (h : StRow b g cp l k ms w) (x : Ext w w') : StRow b g cp l k ms w' := row_ext h x
theorem StRow.x {b g cp : Nat} {l k : L4} {ms : List M5} {w : World} (h : StRow b g cp l k ms w) {i : Nat} (hi : i < ms.length + 2) : w.cell? ⟨g, i * 2, none⟩ = some (.int .i64 (stP l k ms i).x) := by
  obtain ⟨q0, _⟩ := cellsP_get _ _ _ (stL_at l k ms i hi)
  rw [World.ownsRow.cellAt h (i * 2) (by omega)]; exact q0
theorem StRow.y {b g cp : Nat} {l k : L4} {ms : List M5} {w : World} (h : StRow b g cp l k ms w) {i : Nat} (hi : i < ms.length + 2) : w.cell? ⟨g, i * 2 + 1, none⟩ = some (.int .i64 (stP l k ms i).y) := by
  obtain ⟨_, q1⟩ := cellsP_get _ _ _ (stL_at l k ms i hi)
  rw [World.ownsRow.cellAt h (i * 2 + 1) (by omega)]; exact q1

def RelLS (w0 : World) (b g cp : Nat) (l k : L4) (ms : List M5) (o i : Value) (wr : World) : Prop :=
  ∃ j : Nat, i = .int .i64 ((j + 1 : Nat) : Int) ∧ j ≤ ms.length + 1 ∧ wr.ownsRow w0.heap.size 2 1 o j (lnV l k ms j) ∧ StRow b g cp l k ms wr ∧ Ext w0 wr

set_option maxRecDepth 100000 in
set_option maxHeartbeats 4000000 in
theorem legLengths_spec (l k : L4) (a : Option Addr) (cap : Nat) (ms : List M5) (w : World) (hf : Mks w a ms) :
    Calls Try.prog 8 #[CV l k (.slice a ms.length cap)] w fun e w' => ∃ v, e = .returned (.tuple #[v, .int .i64 (llC l k ms)]) ∧ OwnI w' w.heap.size v (llN l k ms) (lnV l k ms (llN l k ms)) ∧ Ext w w' := by
  obtain ⟨W0, hW0⟩ : ∃ W0, W0 = w.alloc (.cells (cellsC l k (.slice a ms.length cap)).toArray 30) := ⟨_, rfl⟩
  have HW := Lib.hid (show Ext w W0 from hW0 ▸ (Ext.refl w).alloc _)
  have BB := Lib.hid (show Box W0 w.heap.size (cellsC l k (.slice a ms.length cap)) from hW0 ▸ Box.new rfl)
  have HF := Lib.hid (hf.ext HW.out)
  have hs0 : W0.heap.size = w.heap.size + 1 := by rw [hW0]; simp
  obtain ⟨W1, hW1⟩ : ∃ W1, W1 = W0.alloc (.cells #[] 2) := ⟨_, rfl⟩
  have X1 := Lib.hid (show Ext W0 W1 from hW1 ▸ (Ext.refl W0).alloc _)
  have O0 := Lib.hid (show W1.ownsRow W0.heap.size 2 1 (.slice (some ⟨w.heap.size + 1, 0, none⟩) 0 0) 0 [] from by
    have := World.ownsRow_lit (base := W0.heap.size) (e := 2) (size := 1) W0 #[] 0 (Nat.le_refl _) (by unfold maxLen; omega) rfl
    rw [hW1]
    simpa [hs0] using this)
  clear hf
  obtain ⟨⟨p0, p1, p2, p3, p4, p5, p6, p7, p8⟩, _⟩ := Box.nine (BB.out.ext X1.out)
  rw [hW1] at p0 p1 p2 p3 p4 p5 p6 p7 p8
  cases hq : crB l k ms
  · rw [show llC l k ms = 1 by unfold llC; rw [hq]; rfl, show llN l k ms = 0 by unfold llN; rw [hq]; rfl]
    go_enter Try.func8, Try.ntmps8
    go_wp2_with fail
    rw [← hW0, ← hW1]
    clear hW0 hW1 p0 p1 p2 p3 p4 p5 p6 p7 p8
    refine (isCourse_spec _ _ _ _ _ _ (HF.out.ext X1.out)).mono ?_
    rw [hq]
    rintro e w1 ⟨rfl, hx⟩
    go_wp2
    go_ret2
    exact ⟨_, rfl, row_mono (row_ext O0.out hx) (Ext.size HW.out), HW.out.trans (X1.out.trans hx)⟩
  · obtain ⟨hv, hv2⟩ := cr_lines hq
    have h8 := cr_eight hq
    have HP := Lib.hid (fun i => st_co (cr_pv hq) i)
    rw [show llC l k ms = 0 by unfold llC; rw [if_pos hq], show llN l k ms = ms.length + 1 by unfold llN; rw [if_pos hq]]
    go_enter Try.func8, Try.ntmps8
    go_wp2_with fail
    rw [← hW0, ← hW1]
    clear hW0 hW1 p0 p1 p2 p3 p4 p5 p6 p7 p8
    refine (isCourse_spec _ _ _ _ _ _ (HF.out.ext X1.out)).mono ?_
    rw [hq]
    rintro e w1 ⟨rfl, hx⟩
    obtain ⟨⟨p0, p1, p2, p3, p4, p5, p6, p7, p8⟩, _⟩ := Box.nine (BB.out.ext (X1.out.trans hx))
    go_wp2_with fail
    refine (stations_spec _ _ _ _ _ _ (HF.out.ext (X1.out.trans hx)) h8 hv hv2).mono ?_
    rintro e w2 ⟨v, rfl, hO, hy⟩
    rcases row_cases hO with ⟨_, h0⟩ | ⟨g, cp, rfl, hcp, _, _⟩
    · exact absurd h0 (by omega)
    have S0 := Lib.hid (show StRow w1.heap.size g cp l k ms w2 from hO)
    have O2 := Lib.hid (row_ext O0.out (hx.trans hy))
    have X2 := Lib.hid (X1.out.trans (hx.trans hy))
    clear hx hy hO p0 p1 p2 p3 p4 p5 p6 p7 p8 O0
    obtain ⟨ti, hin, hz0, hz1, hz2⟩ := info_parts int64Info
    go_wp2
    go_loopw [4, 6] (fun o i wr => RelLS W0 w1.heap.size g cp l k ms o i wr) (fun o i _ => ms.length + 2 - (intOf i).toNat)
    case atStart => exact ⟨0, rfl, Nat.zero_le _, O2.out, S0.out, X2.out⟩
    case round =>
      obtain ⟨j, rfl, hj, hO, hS, hx⟩ := hrel
      have HO := Lib.hid hO
      have HS := Lib.hid hS
      have HX := Lib.hid hx
      clear hO hx hS
      by_cases hj1 : j < ms.length + 1
      · have i1 : (j : Int) + 1 < (ms.length : Int) + 2 := by omega
        have i0 : (0 : Int) ≤ (j : Int) + 1 := by omega
        have i2 : (0 : Int) ≤ (j : Int) := by omega
        have i3 : (j : Int) < (ms.length : Int) + 2 := by omega
        have T8 : IntKind.i64.wrap ((j : Int) + 1 - 1) = (j : Int) := by rw [IntWalk.i64_in _ (by omega)]; omega
        have T11 : IntKind.i64.wrap (j : Int) = (j : Int) := IntWalk.i64_in _ (by omega)
        have T9 : IntKind.i64.wrap (((j + 1 : Nat) : Int) - 1) = (j : Int) := by rw [IntWalk.i64_in _ (by omega)]; omega
        have T10 : IntKind.i64.wrap (((j + 1 : Nat) : Int) + 1) = ((j + 1 + 1 : Nat) : Int) := by rw [IntWalk.i64_in _ (by omega)]; omega
        have i4 : ((j + 1 : Nat) : Int) < ((ms.length + 2 : Nat) : Int) := by omega
        have i5 : ((j + 1 : Nat) : Int) < (ms.length : Int) + 2 := by omega
        have i6 : (j : Int) < ((ms.length + 2 : Nat) : Int) := by omega
        have i7 : j < ms.length + 2 := by omega
        have i8 : j + 1 < ms.length + 2 := by omega
        have i9 : j < ms.length + 1 := by omega
        have ra : ∀ w', StRow w1.heap.size g cp l k ms w' → w'.cell? ⟨g, j * 2, none⟩ = some (.int .i64 (stP l k ms j).x) := fun w' h => StRow.x h i7
        have rb : ∀ w', StRow w1.heap.size g cp l k ms w' → w'.cell? ⟨g, j * 2 + 1, none⟩ = some (.int .i64 (stP l k ms j).y) := fun w' h => StRow.y h i7
        have rc : ∀ w', StRow w1.heap.size g cp l k ms w' → w'.cell? ⟨g, (j + 1) * 2, none⟩ = some (.int .i64 (stP l k ms (j + 1)).x) := fun w' h => StRow.x h i8
        have rd : ∀ w', StRow w1.heap.size g cp l k ms w' → w'.cell? ⟨g, (j + 1) * 2 + 1, none⟩ = some (.int .i64 (stP l k ms (j + 1)).y) := fun w' h => StRow.y h i8
        obtain ⟨a0, a1⟩ := HP.out j
        obtain ⟨b0, b1⟩ := HP.out (j + 1)
        have PS := Lib.hid (fun w => square_any (stP l k ms j).x (stP l k ms j).y (stP l k ms (j + 1)).x (stP l k ms (j + 1)).y w a0 a1 b0 b1)
        have HN := Lib.hid (show rt (sqD (stP l k ms j).x (stP l k ms j).y (stP l k ms (j + 1)).x (stP l k ms (j + 1)).y) = lnI l k ms j from rfl)
        have HB := sqs_bd (x := (stP l k ms (j + 1)).x - (stP l k ms j).x) (y := (stP l k ms (j + 1)).y - (stP l k ms j).y) (by unfold Co at a0 b0; omega) (by unfold Co at a1 b1; omega)
        obtain ⟨Q, hQ⟩ : ∃ Q, Q = sqD (stP l k ms j).x (stP l k ms j).y (stP l k ms (j + 1)).x (stP l k ms (j + 1)).y := ⟨_, rfl⟩
        have HB2 : 0 ≤ Q ∧ Q ≤ 8000000000000 := by rw [hQ]; exact HB
        rw [← hQ] at PS HN
        have PR := Lib.hid (fun w => root_any Q w HB2.1 (by omega))
        rw [HN.out] at PR
        have LS := Lib.hid (lnV_succ l k ms j)
        obtain ⟨N, hN⟩ : ∃ N, N = lnI l k ms j := ⟨_, rfl⟩
        rw [← hN] at PR LS
        clear hN HN a0 a1 b0 b1 hQ HB HB2
        go_wp2_with fail
        refine wp_region_held_drew (S := StRow w1.heap.size g cp l k ms) (by kernel_rfl) (by (try dsimp only); exact HS.out.ext (Ext.refl _).drew) (fun hHeld => ?_)
        (refine Ord.takeH 0 20 (v := ?_) rfl rfl (by kernel_rfl) (by kernel_rfl) (by kernel_rfl) (fun _ _ _ h => h) (by rfl) ?_ (by assumption) ?_; rotate_left; (intro w hSw; (try dsimp only at hSw); go_simp; (first | done | with_reducible rfl)); (try simp only [Act.put, List.setIfInBounds_toArray, List.set_cons_zero, List.set_cons_succ])); (refine Ord.takeH 1 21 (v := ?_) rfl rfl (by kernel_rfl) (by kernel_rfl) (by kernel_rfl) (fun _ _ _ h => h) (by rfl) ?_ (by assumption) ?_; rotate_left; (intro w hSw; (try dsimp only at hSw); go_simp; (first | done | with_reducible rfl)); (try simp only [Act.put, List.setIfInBounds_toArray, List.set_cons_zero, List.set_cons_succ])); (refine Ord.takeH 2 22 (v := ?_) rfl rfl (by kernel_rfl) (by kernel_rfl) (by kernel_rfl) (fun _ _ _ h => h) (by rfl) ?_ (by assumption) ?_; rotate_left; (intro w hSw; (try dsimp only at hSw); go_simp; (first | done | with_reducible rfl)); (try simp only [Act.put, List.setIfInBounds_toArray, List.set_cons_zero, List.set_cons_succ])); (refine Ord.takeH 3 23 (v := ?_) rfl rfl (by kernel_rfl) (by kernel_rfl) (by kernel_rfl) (fun _ _ _ h => h) (by rfl) ?_ (by assumption) ?_; rotate_left; (intro w hSw; (try dsimp only at hSw); go_simp; (first | done | with_reducible rfl)); (try simp only [Act.put, List.setIfInBounds_toArray, List.set_cons_zero, List.set_cons_succ])); (refine Ord.takeH 4 24 (v := ?_) rfl rfl (by kernel_rfl) (by kernel_rfl) (by kernel_rfl) (fun _ _ _ h => h) (by rfl) ?_ (by assumption) ?_; rotate_left; (intro w hSw; (try dsimp only at hSw); go_simp; (first | done | with_reducible rfl)); (try simp only [Act.put, List.setIfInBounds_toArray, List.set_cons_zero, List.set_cons_succ])); (refine Ord.takeH 5 25 (v := ?_) rfl rfl (by kernel_rfl) (by kernel_rfl) (by kernel_rfl) (fun _ _ _ h => h) (by rfl) ?_ (by assumption) ?_; rotate_left; (intro w hSw; (try dsimp only at hSw); go_simp; (first | done | with_reducible rfl)); (try simp only [Act.put, List.setIfInBounds_toArray, List.set_cons_zero, List.set_cons_succ])); (refine Ord.takeH 6 26 (v := ?_) rfl rfl (by kernel_rfl) (by kernel_rfl) (by kernel_rfl) (fun _ _ _ h => h) (by rfl) ?_ (by assumption) ?_; rotate_left; (intro w hSw; (try dsimp only at hSw); go_simp; (first | done | with_reducible rfl)); (try simp only [Act.put, List.setIfInBounds_toArray, List.set_cons_zero, List.set_cons_succ])); (refine Ord.takeH 7 27 (v := ?_) rfl rfl (by kernel_rfl) (by kernel_rfl) (by kernel_rfl) (fun _ _ _ h => h) (by rfl) ?_ (by assumption) ?_; rotate_left; (intro w hSw; (try dsimp only at hSw); go_simp; (first | done | with_reducible rfl)); (try simp only [Act.put, List.setIfInBounds_toArray, List.set_cons_zero, List.set_cons_succ])); (refine Ord.takeH 8 28 (v := ?_) rfl rfl (by kernel_rfl) (by kernel_rfl) (by kernel_rfl) (fun _ _ _ h => h) (by rfl) ?_ (by assumption) ?_; rotate_left; (intro w hSw; (try dsimp only at hSw); go_simp; (first | done | with_reducible rfl)); (try simp only [Act.put, List.setIfInBounds_toArray, List.set_cons_zero, List.set_cons_succ])); (refine Ord.takeH 9 29 (v := ?_) rfl rfl (by kernel_rfl) (by kernel_rfl) (by kernel_rfl) (fun _ _ _ h => h) (by rfl) ?_ (by assumption) ?_; rotate_left; (intro w hSw; (try dsimp only at hSw); go_simp; (first | done | with_reducible rfl)); (try simp only [Act.put, List.setIfInBounds_toArray, List.set_cons_zero, List.set_cons_succ]))
        refine wpAnyH_ready (rs := [10]) (by kernel_rfl) (by simp) ?_
        refine AllReadyH.cons rfl (fun K hK => ?_) AllReadyH.nil
        go_simp
        go_at_call 26
        refine (PS.out _).mono ?_
        rintro e w3 ⟨rfl, hy⟩
        go_wp2_with fail
        have S3 := hHeld.ext hy
        have OX := (Ext.refl wr).drew.trans hy
        refine hK.out _ _ S3 (fun hHeld => ?_)
        clear hK K hHeld hy
        (try simp only [Act.put, List.setIfInBounds_toArray, List.set_cons_zero, List.set_cons_succ])
        refine wpAnyH_ready (rs := [11]) (by kernel_rfl) (by simp) ?_
        refine AllReadyH.cons rfl (fun K hK => ?_) AllReadyH.nil
        go_simp
        go_at_call 25
        refine (PR.out _).mono ?_
        rintro e w4 ⟨rfl, rfl⟩
        go_wp2_with fail
        refine hK.out _ _ S3 (fun hHeld => ?_)
        clear hK K
        (try simp only [Act.put, List.setIfInBounds_toArray, List.set_cons_zero, List.set_cons_succ])
        refine wpAnyH_ready (rs := [12]) (by kernel_rfl) (by simp) ?_
        refine AllReadyH.cons rfl (fun K hK => ?_) AllReadyH.nil
        go_simp
        have S4 := S3.ext ((Ext.refl w3).alloc (.cells #[.int .i64 N] 2))
        refine hK.out _ _ S4 (fun hHeld => ?_)
        clear hK K
        (try simp only [Act.put, List.setIfInBounds_toArray, List.set_cons_zero, List.set_cons_succ])
        have OA := row_ext HO.out (OX.alloc (.cells #[.int .i64 N] 2))
        have CC := lit_cells (w := w3) (u := .int .i64 N) (t := 2) rfl
        have XA := HX.out.trans (OX.alloc (.cells #[.int .i64 N] 2))
        refine wpAnyH_ready (rs := [13]) (by kernel_rfl) (by simp) ?_
        refine AllReadyH.cons rfl (fun K hK => ?_) AllReadyH.nil
        refine step_append_own rfl (.tmp 20) (.tmp 32) 32 rfl W0.heap.size 2 ti (.int .i64 0) 1 8 Try.underlying32 hin hz0 hz1 hz2 rfl (by decide) _ j _ (by simp [Act.eval, Act.put]) OA ⟨w3.heap.size, 0, none⟩ 1 1 [.int .i64 N] (by simp [Act.eval, Act.put]) rfl CC (one_int N) (by unfold maxLen; omega) (by omega) (Ext.size XA) ?_
        intro v1 w5 hown hgrow
        have S5 : StRow w1.heap.size g cp l k ms w5 := World.ownsRow.kept S4 hgrow (row_apart S4 OA (by decide))
        refine hK.out _ _ S5 (fun hHeld => ?_)
        clear hK K
        (try simp only [Act.put, List.setIfInBounds_toArray, List.set_cons_zero, List.set_cons_succ])
        (refine Ord.takeH 14 4 (v := ?_) rfl rfl (by kernel_rfl) (by kernel_rfl) (by kernel_rfl) (fun _ _ _ h => h) (by rfl) ?_ (by assumption) ?_; rotate_left; (intro w hSw; (try dsimp only at hSw); go_simp; (first | done | with_reducible rfl)); (try simp only [Act.put, List.setIfInBounds_toArray, List.set_cons_zero, List.set_cons_succ]))
        refine wpAnyH_done (by kernel_rfl) ?_ _
        have O5 := Lib.hid (show w5.ownsRow W0.heap.size 2 1 v1 (j + 1) (lnV l k ms (j + 1)) by rw [LS.out]; exact hown)
        have X5 := Lib.hid (row_grown (w0 := W0) OA hgrow (Nat.le_refl _) XA)
        replace S5 := Lib.hid S5
        clear hown hgrow OA CC S4 S3 hHeld
        go_wp2
        go_roundw
        case rel => exact ⟨j + 1, by go_num, by omega, O5.out, S5.out, X5.out⟩
        case measure => simp [intOf]; omega
      · obtain rfl : j = ms.length + 1 := by omega
        go_wp2
        go_ret2
        exact ⟨_, rfl, row_mono HO.out (Ext.size HW.out), HW.out.trans HX.out⟩

end Go.Proofs.Ytiofplgbbbdkfaa.Crs
