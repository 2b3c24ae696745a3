import Derived.Test.YtmlojndkpnhalaaGreatMPts
import Derived.Test.YtmlojndkpnhalaaGreatMDraw2
import Derived.Test.YtmlojndkpnhalaaGreatOrd
import Derived.OwnWalk
import Derived.Laws.OwnMore
import Derived.IntWalk
import Derived.Outline
import Derived.Deep.RegionLaw
import Derived.Deep.LoopGhost
namespace Go.Proofs.YtmlojndkpnhalaaGreat.Trk
open Go.ChangeShapes Go.WideShapes Go.ChangeAt Go.RowKit
open Go.Proofs.YtmlojndkpnhalaaGreat.Num Go.Proofs.YtmlojndkpnhalaaGreat.Kit Go.Proofs.YtmlojndkpnhalaaGreat.Pts Go.Proofs.YtmlojndkpnhalaaGreat.Draw
set_option linter.unusedVariables false
set_option linter.unusedSimpArgs false
theorem Src.grown {w w' : World} {B : Nat} {row : Option Nat} (h : Src w B) (hg : w.grownBy w' row) (hr : ∀ k, row = some k → B < k) : Src w' B := by
  obtain ⟨a, len, cap, at_, seed, S, a0, a1, hl, h1, h2, hc⟩ := h
  have hB := World.block_lt_of_cell? w _ S.c0
  have e : ∀ k, k ≤ B → w'.heap[k]? = w.heap[k]? := fun k hk => hg.block k (Nat.lt_of_le_of_lt hk hB) (fun e => by have := hr k e.symm; omega)
  have ec : ∀ o, w'.cell? ⟨B, o, none⟩ = w.cell? ⟨B, o, none⟩ := fun o => World.cell?_of_block (w := w) (e B (Nat.le_refl _))
  have ef : ∀ o, w'.frozen? ⟨B, o, none⟩ = w.frozen? ⟨B, o, none⟩ := fun o => World.frozen?_of_block (w := w) (e B (Nat.le_refl _))
  refine ⟨a, len, cap, at_, seed, ⟨(ec 0).trans S.c0, (ec 1).trans S.c1, (ec 2).trans S.c2, (ef 1).trans S.f1, (ef 2).trans S.f2⟩, a0, a1, hl, h1, h2, ?_⟩
  rcases hc with hc | ⟨b, off, ha, hb, hc⟩
  · exact .inl hc
  · exact .inr ⟨b, off, ha, hb, fun i hi => by
      obtain ⟨z, z0, z1, hz⟩ := hc i hi
      exact ⟨z, z0, z1, (World.cell?_of_block (w := w) (a := ⟨b, off + i, none⟩) (e b (by omega))).trans hz⟩⟩
end Go.Proofs.YtmlojndkpnhalaaGreat.Trk
namespace Go.Proofs.YtmlojndkpnhalaaGreat.Trk
open Go.ChangeShapes Go.WideShapes Go.ChangeAt Go.RowKit
open Go.Proofs.YtmlojndkpnhalaaGreat.Num Go.Proofs.YtmlojndkpnhalaaGreat.Kit Go.Proofs.YtmlojndkpnhalaaGreat.Pts Go.Proofs.YtmlojndkpnhalaaGreat.Draw
set_option linter.unusedVariables false
set_option linter.unusedSimpArgs false
def ATr (B : Nat) (w : World) (e : Ending) (w' : World) : Prop :=
  ∃ (v : Value) (fs : List F3), e = .returned (Tr v) ∧ 2 ≤ fs.length ∧ fs.length ≤ 8 ∧ OwnF w' w.heap.size v fs ∧ Src w' B ∧ Chg B w w'
def RelG (w : World) (B P m0 : Nat) (t0 : Int) (t o n : Value) (wr : World) : Prop :=
  ∃ (fs : List F3) (k : Nat) (x y : Int), n = .int .i64 k ∧ fs.length + k = m0 ∧ (∃ z : Int, t = .int .i64 z ∧ t0 ≤ z ∧ z ≤ t0 + 2001 * fs.length) ∧ OwnF wr (P + 1) o fs ∧
    Box wr P [.int .i64 x, .int .i64 y] ∧ (-1000001 ≤ x ∧ x ≤ 1000001) ∧ (-1000001 ≤ y ∧ y ≤ 1000001) ∧ Box wr w.heap.size [.slice none 0 0] ∧ Src wr B ∧ Chg B w wr
set_option maxRecDepth 100000 in
set_option maxHeartbeats 2000000 in
theorem drawFrom_any (B : Nat) (t0 : Int) (w : World) (hs : Src w B) (h0 : 0 ≤ t0) (h1 : t0 ≤ 1000000) : Calls Tryz.prog 200 #[.pointer (some ⟨B, 0, none⟩), .int .i64 t0] w (ATr B w) := by
  have hB := hs.lt
  have hn0 : w.heap.size ≠ B := by omega
  go_enter Tryz.func200, Tryz.ntmps200
  go_wp2_with fail
  refine (drawPoint_any _ _ (hs.alloc _)).mono ?_
  rintro e w1 ⟨x, y, rfl, hx, hy, hs1, hc1⟩
  have R := ((Box.new (w := w) (vs := [.slice none 0 0]) (t := 33) rfl).chg hc1 hn0)
  have z1 := hc1.size
  simp at z1
  go_wp2_with fail
  refine (next_pos _ _ _ (by repeat (first | with_reducible assumption | with_reducible apply Src.alloc | with_reducible apply Src.drew | with_reducible apply Src.drewN)) (by omega)).mono ?_
  rintro e w2 ⟨r, rfl, r0, r1, hs2, hc2⟩
  obtain ⟨v, hv, hor⟩ := pick3 hc2 (by repeat (first | with_reducible assumption | with_reducible apply Src.alloc | with_reducible apply Src.drew | with_reducible apply Src.drewN)) r0 r1
  simp at hv
  have hv2 : 1 < v ∧ v ≤ 301 := by omega
  have nP : w1.heap.size ≠ B := by have := hs1.lt; omega
  have P2 := (((Box.new2 (w := w1) (n := w1.heap.size) (x := .int .i64 x) (y := .int .i64 y) (t := 25) rfl).alloc (.cells #[] 53)).alloc (.cells #[.int .i64 9, .int .i64 61, .int .i64 301] 2)).chg hc2 nP
  have R2 := (((R.alloc (.cells #[.int .i64 x, .int .i64 y] 25)).alloc (.cells #[] 53)).alloc (.cells #[.int .i64 9, .int .i64 61, .int .i64 301] 2)).chg hc2 hn0
  have O0 : OwnF ((w1.alloc (.cells #[.int .i64 x, .int .i64 y] 25)).alloc (.cells #[] 53)) (w1.heap.size + 1) (.slice (some ⟨w1.heap.size + 1, 0, none⟩) 0 0) [] := by
    have := World.ownsRow_lit (base := w1.heap.size + 1) (e := 53) (size := 3) (w1.alloc (.cells #[.int .i64 x, .int .i64 y] 25)) #[] 0 (by simp) (by unfold maxLen; omega) (by simp)
    simpa [OwnF, cellsF] using this
  have O2 := OwnF.chg (O0.ext ((Ext.refl _).alloc (.cells #[.int .i64 9, .int .i64 61, .int .i64 301] 2))) hc2 (by simp [Value.ownBlock]; have := hs1.lt; omega)
  have C2 : Chg B w w2 := ((((Chg.refl B w).alloc _).trans hc1).alloc _ |>.alloc _ |>.alloc _).trans hc2
  have z2 := hc2.size
  simp at z2
  clear hc2 hs1 R O0
  go_wp2_with fail
  refine (next_pos _ _ _ hs2 (by omega)).mono ?_
  rintro e w3 ⟨q, rfl, q0, q1, hs3, hc3⟩
  obtain ⟨m, rfl⟩ := Int.eq_ofNat_of_zero_le q0
  have P3 := Lib.hid (P2.chg hc3 nP)
  have R3 := Lib.hid (R2.chg hc3 hn0)
  have O3 := Lib.hid (O2.chg hc3 (by simp [Value.ownBlock]; omega))
  have C3 := Lib.hid (C2.trans hc3)
  have S3 := Lib.hid hs3
  have z3 := hc3.size
  have T0 : IntKind.i64.wrap (2 + (m : Int)) = 2 + (m : Int) := IntWalk.i64_in _ (by omega)
  clear hc3 hs3 hs2 P2 R2 O2 C2 hc1 hs hv
  go_wp2
  go_loopw [1, 6, 8] (fun t o n wr => RelG w B w1.heap.size (m + 2) t0 t o n wr) (fun t o n _ => (intOf n).toNat)
  case atStart => exact ⟨[], m + 2, x, y, by go_num, by simp, ⟨t0, rfl, by omega, by simp⟩, O3.out, P3.out, hx, hy, R3.out, S3.out, C3.out⟩
  case round =>
    obtain ⟨fs, k, x, y, rfl, hm, ⟨z, rfl, hz0, hz1⟩, O, P, hx, hy, R, hs, hc⟩ := hrel
    have HO := Lib.hid O
    have HC := Lib.hid hc
    have HS := Lib.hid hs
    have HR := Lib.hid R
    have HP := Lib.hid P
    obtain ⟨⟨c0, c1⟩, f0, f1⟩ := P.two
    clear O hc hs R P
    by_cases hk : 0 < k
    · obtain ⟨i0, hi, hz0', hz1', hz2'⟩ := info_parts fixInfo
      go_wp2_with (at_builtin; refine wpList_append_own _ rfl _ _ 31 rfl (w1.heap.size + 1) 53 i0 (Fx 0 0 0) 3 24 Tryz.underlying31 hi hz0' hz1' hz2' rfl (by decide) _ fs.length _ rfl (World.ownsRow.alloc HO.out _) ⟨wr.heap.size, 0, none⟩ 1 1 [.int .i64 z, .int .i64 x, .int .i64 y] rfl rfl one_cells one_ones (by unfold maxLen; omega) (by omega) (by have := HP.out.lt; simp; omega) ?_; intro v' w4 hown hgrow hnil)
      have OA := HO.out.ext ((Ext.refl wr).alloc (.cells #[.int .i64 z, .int .i64 x, .int .i64 y] 53))
      have O4 := OwnF.snoc hown
      have S4 := Src.grown (HS.out.alloc (.cells #[.int .i64 z, .int .i64 x, .int .i64 y] 53)) hgrow (fun k hk => by have := (World.ownsRow.lt HO.out k hk).1; omega)
      have P4 := grown_box OA hgrow (HO.out.block (by omega)) (HP.out.alloc _)
      have R4 := grown_box OA hgrow (HO.out.block (by omega)) (HR.out.alloc _)
      have C4 := grown_chg (w0 := w) (B := B) OA hgrow (by omega) (HC.out.alloc _)
      clear hown hgrow hnil OA HO HC HS HR HP c0 c1 f0 f1
      refine (next_pos _ _ _ S4 (by omega)).mono ?_
      rintro e w5 ⟨r5, rfl, r50, r51, S5, c5⟩
      have P5 := P4.chg c5 nP
      have R5 := R4.chg c5 hn0
      have O5 := Lib.hid (O4.chg c5 (O4.block (by omega)))
      have C5 := C4.trans c5
      have z5 := c5.size
      have T5 : IntKind.i64.wrap (1 + r5) = 1 + r5 := IntWalk.i64_in _ (by omega)
      have T6 : IntKind.i64.wrap (z + (1 + r5)) = z + (1 + r5) := IntWalk.i64_in _ (by omega)
      have T7 : IntKind.i64.wrap ((k : Int) - 1) = (k : Int) - 1 := IntWalk.i64_in _ (by omega)
      clear S4 P4 R4 O4 C4 c5
      obtain ⟨⟨c0, c1⟩, f0, f1⟩ := P5.two
      go_wp2_with fail
      have D5 : ∀ r, 0 ≤ r → r < v → IntKind.i64.wrap (x + r) = x + r ∧ IntKind.i64.wrap (x + r - v / 2) = x + r - v / 2 := fun r h1 h2 => ⟨IntWalk.i64_in _ (by omega), IntWalk.i64_in _ (by omega)⟩
      go_region_law (first | (go_simp; go_at_call 68; refine (next_pos _ _ _ (by repeat (first | with_reducible assumption | with_reducible apply Src.alloc | with_reducible apply Src.drew | with_reducible apply Src.drewN)) (by omega)).mono ?_; rintro e w6 ⟨r6, rfl, r60, r61, S6, c6⟩; replace P5 := P5.drew.chg c6 nP; replace R5 := R5.drew.chg c6 hn0; replace O5 := Lib.hid ((O5.out.ext (Ext.refl _).drew).chg c6 (O5.out.block (by omega))); replace C5 := C5.drew.trans c6; replace c0 := P5.two.1.1; replace c1 := P5.two.1.2; replace f0 := P5.two.2.1; replace f1 := P5.two.2.2; obtain ⟨D6, D7⟩ := D5 r6 r60 r61))
      all_goals
        generalize IntKind.i64.wrap (x + r6 - IntKind.i64.wrap (v.tdiv 2)) = q at *
        have hm5 : -1000000 ≤ (if -1000000 < q then q else -1000000) := by split <;> omega
        generalize (if -1000000 < q then q else -1000000) = x5 at hm5 ⊢
        have hq : -1000000 ≤ (if x5 < 1000000 then x5 else 1000000) ∧ (if x5 < 1000000 then x5 else 1000000) ≤ 1000000 := by split <;> omega
        generalize (if x5 < 1000000 then x5 else 1000000) = x6 at hq ⊢
        clear hm5
        obtain ⟨w7, hw7⟩ : ∃ w7, w7 = w6.setCell ⟨w1.heap.size, 0, none⟩ (.int .i64 x6) := ⟨_, rfl⟩
        rw [← hw7]
        have P7 : Box w7 w1.heap.size [.int .i64 x6, .int .i64 y] := hw7 ▸ P5.set 0 (by simp) (.int .i64 x6)
        have R7 : Box w7 w.heap.size [.slice none 0 0] := hw7 ▸ R5.away (by simp; omega) _
        have O7 := Lib.hid (show OwnF w7 (w1.heap.size + 1) v' (fs ++ [⟨z, x, y⟩]) from hw7 ▸ O5.out.chg ((Chg.refl _ _).setCell 0 _) (O5.out.block (by omega)))
        have S7 : Src w7 B := hw7 ▸ S6.setCell (by simp; omega) _
        have C7 : Chg B w w7 := hw7 ▸ C5.setNew (by simp; omega) _
        clear hw7 P5 R5 O5 S6 C5 c0 c1 f0 f1 D5 D6 D7 T5 T6 c6
        obtain ⟨⟨c0, c1⟩, f0, f1⟩ := P7.two
        go_wp2_with fail
        have D8 : ∀ r, 0 ≤ r → r < v → IntKind.i64.wrap (y + r) = y + r := fun r h1 h2 => IntWalk.i64_in _ (by omega)
        go_region_law (first | (go_simp; go_at_call 68; refine (next_pos _ _ _ (by repeat (first | with_reducible assumption | with_reducible apply Src.alloc | with_reducible apply Src.drew | with_reducible apply Src.drewN)) (by omega)).mono ?_; rintro e w8 ⟨r8, rfl, r80, r81, S8, c8⟩; replace P7 := P7.drew.chg c8 nP; replace R7 := R7.drew.chg c8 hn0; replace O7 := Lib.hid ((O7.out.ext (Ext.refl _).drew).chg c8 (O7.out.block (by omega))); replace C7 := C7.drew.trans c8; replace c0 := P7.two.1.1; replace c1 := P7.two.1.2; replace f0 := P7.two.2.1; replace f1 := P7.two.2.2; have D9 := D8 r8 r80 r81))
        all_goals
          generalize IntKind.i64.wrap (y + r8 - IntKind.i64.wrap (v.tdiv 2)) = q8 at *
          have hm5 : -1000000 ≤ (if -1000000 < q8 then q8 else -1000000) := by split <;> omega
          generalize (if -1000000 < q8 then q8 else -1000000) = y5 at hm5 ⊢
          have hq8 : -1000000 ≤ (if y5 < 1000000 then y5 else 1000000) ∧ (if y5 < 1000000 then y5 else 1000000) ≤ 1000000 := by split <;> omega
          generalize (if y5 < 1000000 then y5 else 1000000) = y8 at hq8 ⊢
          clear hm5
          obtain ⟨w9, hw9⟩ : ∃ w9, w9 = w8.setCell ⟨w1.heap.size, 1, none⟩ (.int .i64 y8) := ⟨_, rfl⟩
          rw [← hw9]
          have P9 : Box w9 w1.heap.size [.int .i64 x6, .int .i64 y8] := hw9 ▸ P7.set 1 (by simp) (.int .i64 y8)
          have R9 : Box w9 w.heap.size [.slice none 0 0] := hw9 ▸ R7.away (by simp; omega) _
          have O9 := Lib.hid (show OwnF w9 (w1.heap.size + 1) v' (fs ++ [⟨z, x, y⟩]) from hw9 ▸ O7.out.chg ((Chg.refl _ _).setCell 1 _) (O7.out.block (by omega)))
          have S9 : Src w9 B := hw9 ▸ S8.setCell (by simp; omega) _
          have C9 : Chg B w w9 := hw9 ▸ C7.setNew (by simp; omega) _
          clear hw9 P7 R7 O7 S8 C7 c0 c1 f0 f1 D8 D9 c8
          go_wp2
          go_roundw
          case rel => exact ⟨fs ++ [⟨z, x, y⟩], k - 1, x6, y8, by go_num, by simp; omega, ⟨z + (1 + r5), rfl, by omega, by simp; omega⟩, O9.out, P9, by omega, by omega, R9, S9, C9⟩
          case measure => simp [intOf]; omega
    · obtain rfl : k = 0 := by omega
      obtain ⟨a, cap, rfl, hcap, hF, _⟩ := HO.out.fxs
      obtain ⟨r0, rf⟩ := HR.out 0 _ rfl
      go_wp2
      have g0 : (wr.setCell ⟨w.heap.size, 0, none⟩ (.slice a fs.length cap)).cell? ⟨w.heap.size, 0, none⟩ = some (.slice a fs.length cap) := World.cell?_setCell_same _ _ _ r0
      exact bodyPost_ret (v := Tr (.slice a fs.length cap)) (by simp [results, Tryz.results200, go_sem, g0]) rfl
        ⟨_, fs, rfl, by omega, by omega, (HO.out.chg ((Chg.refl _ _).setCell 0 _) (HO.out.block (by omega))).mono (by omega), HS.out.setCell hB _, HC.out.setNew (Nat.le_refl _) _⟩
end Go.Proofs.YtmlojndkpnhalaaGreat.Trk
namespace Go.Proofs.YtmlojndkpnhalaaGreat.Trk
open Go.ChangeShapes Go.WideShapes Go.ChangeAt Go.RowKit
open Go.Proofs.YtmlojndkpnhalaaGreat.Num Go.Proofs.YtmlojndkpnhalaaGreat.Kit Go.Proofs.YtmlojndkpnhalaaGreat.Pts Go.Proofs.YtmlojndkpnhalaaGreat.Draw
set_option linter.unusedVariables false
set_option linter.unusedSimpArgs false
def IntRow (w : World) (g n : Nat) : Prop := ∀ j, j < n * 3 → (∃ z : Int, w.cell? ⟨g, j, none⟩ = some (.int .i64 z)) ∧ w.frozen? ⟨g, j, none⟩ = false
theorem Own.ints {w : World} {g : Nat} {fs : List F3} (h : Own w g fs) : IntRow w g fs.length := by
  intro j hj
  obtain ⟨⟨c0, c1, c2⟩, f0, f1, f2⟩ := h (j / 3) (by omega)
  rcases (show j = j / 3 * 3 ∨ j = j / 3 * 3 + 1 ∨ j = j / 3 * 3 + 2 by omega) with e | e | e
  · rw [e]; exact ⟨⟨_, c0⟩, f0⟩
  · rw [e]; exact ⟨⟨_, c1⟩, f1⟩
  · rw [e]; exact ⟨⟨_, c2⟩, f2⟩
theorem IntRow.ext {w w' : World} {g n : Nat} (h : IntRow w g n) (k : Ext w w') : IntRow w' g n := fun j hj => by
  obtain ⟨⟨z, c⟩, f⟩ := h j hj
  exact ⟨⟨z, k.cellOf c⟩, k.thawOf c f⟩
theorem IntRow.chg {w w' : World} {g n B : Nat} (h : IntRow w g n) (k : Chg B w w') (hB : g ≠ B) : IntRow w' g n := fun j hj => by
  obtain ⟨⟨z, c⟩, f⟩ := h j hj
  exact ⟨⟨z, k.cellOf hB c⟩, k.thawOf hB c f⟩
theorem IntRow.set {w : World} {g n : Nat} (h : IntRow w g n) (i : Nat) (v : Int) : IntRow (w.setCell ⟨g, i, none⟩ (.int .i64 v)) g n := fun j hj => by
  obtain ⟨⟨z, c⟩, f⟩ := h j hj
  refine ⟨?_, by rw [World.frozen?_setCell]; exact f⟩
  by_cases e : i = j
  · subst e; exact ⟨v, World.cell?_setCell_same _ _ _ c⟩
  · exact ⟨z, by rw [World.cell?_setCell_other _ _ _ _ (by simp <;> omega)]; exact c⟩
theorem IntRow.less {w : World} {g n m : Nat} (h : IntRow w g n) (hm : m ≤ n) : IntRow w g m := fun j hj => h j (by omega)
theorem IntRow.own {w : World} {g : Nat} : ∀ n : Nat, IntRow w g n → ∃ fs : List F3, fs.length = n ∧ Own w g fs
  | 0, _ => ⟨[], rfl, fun i hi => absurd hi (by simp)⟩
  | n + 1, h => by
    obtain ⟨fs, hl, hf⟩ := IntRow.own n (h.less (by omega))
    obtain ⟨⟨x, c0⟩, f0⟩ := h (n * 3) (by omega)
    obtain ⟨⟨y, c1⟩, f1⟩ := h (n * 3 + 1) (by omega)
    obtain ⟨⟨z, c2⟩, f2⟩ := h (n * 3 + 2) (by omega)
    refine ⟨fs ++ [⟨x, y, z⟩], by simp [hl], fun i hi => ?_⟩
    by_cases e : i < n
    · have e1 : fx (fs ++ [⟨x, y, z⟩]) i = fx fs i := by
        unfold fx
        rw [List.getD_eq_getElem?_getD, List.getD_eq_getElem?_getD, List.getElem?_append_left (by omega)]
      rw [e1]; exact hf i (by omega)
    · obtain rfl : i = n := by simp [hl] at hi; omega
      have e1 : fx (fs ++ [⟨x, y, z⟩]) i = ⟨x, y, z⟩ := by
        unfold fx
        rw [List.getD_eq_getElem?_getD, List.getElem?_append_right (by omega), hl]; simp
      rw [e1]; exact ⟨⟨c0, c1, c2⟩, f0, f1, f2⟩
def AnyT (B : Nat) (w : World) (e : Ending) (w' : World) : Prop :=
  ∃ (g cap n : Nat), e = .returned (Tr (.slice (some ⟨g, 0, none⟩) n cap)) ∧ 1 ≤ n ∧ n ≤ 41 ∧ n ≤ cap ∧ w.heap.size ≤ g ∧ IntRow w' g n ∧ Src w' B ∧ Chg B w w'
theorem draw_any (B : Nat) (w : World) (hs : Src w B) : Calls Tryz.prog 130 #[.pointer (some ⟨B, 0, none⟩)] w (ATr B w) := by
  have hB := hs.lt
  have hn0 : w.heap.size ≠ B := by omega
  go_enter Tryz.func130, Tryz.ntmps130
  go_wp2_with fail
  refine (next_pos _ _ _ (by repeat (first | with_reducible assumption | with_reducible apply Src.alloc | with_reducible apply Src.drew | with_reducible apply Src.drewN)) (by omega)).mono ?_
  rintro e w1 ⟨r, rfl, r0, r1, hs1, hc1⟩
  have R := ((Box.new (w := w) (vs := [.slice none 0 0]) (t := 33) rfl).chg hc1 hn0)
  go_wp2_with fail
  refine (drawFrom_any _ _ _ hs1 r0 (by omega)).mono ?_
  rintro e w2 ⟨v, fs, rfl, h2, h8, hO, hs2, hc2⟩
  have R2 := R.chg hc2 hn0
  obtain ⟨q0, qf⟩ := R2 0 _ rfl
  have z1 := hc1.size
  simp at z1
  have hC := (((Chg.refl B w).alloc (.cells #[.slice none 0 0] 33)).trans hc1).trans hc2
  obtain ⟨a, cap, rfl, hcap, hF, hg⟩ := hO.fxs
  clear hc1 hc2 R R2 hs1
  go_wp2
  have g0 : (w2.setCell ⟨w.heap.size, 0, none⟩ (.slice a fs.length cap)).cell? ⟨w.heap.size, 0, none⟩ = some (.slice a fs.length cap) := World.cell?_setCell_same _ _ _ q0
  exact bodyPost_ret (v := Tr (.slice a fs.length cap)) (by simp [results, Tryz.results130, go_sem, g0]) rfl
    ⟨_, fs, rfl, h2, h8, (hO.chg ((Chg.refl _ _).setCell 0 _) (hO.block (by omega))).mono (by omega), hs2.setCell hB _, hC.setNew (Nat.le_refl _) _⟩
theorem anyT_done {B n g cap : Nat} {w F : World} {tmps : Array Value} {q0 : Value} (hq : F.cell? ⟨w.heap.size, 0, none⟩ = some q0) (hB : B < w.heap.size) (h1 : 1 ≤ n) (h2 : n ≤ 41) (h3 : n ≤ cap) (hg : w.heap.size < g) (hI : IntRow F g n) (hs : Src F B) (hC : Chg B w F)
    (ha : tmps[2]? = some (.pointer (some ⟨w.heap.size, 0, none⟩))) :
    bodyPost Tryz.prog Tryz.f70 (AnyT B w) Exit.ret ⟨tmps, []⟩ (F.setCell ⟨w.heap.size, 0, none⟩ (.slice (some ⟨g, 0, none⟩) n cap)) := by
  have g0 : (F.setCell ⟨w.heap.size, 0, none⟩ (.slice (some ⟨g, 0, none⟩) n cap)).cell? ⟨w.heap.size, 0, none⟩ = some (.slice (some ⟨g, 0, none⟩) n cap) := World.cell?_setCell_same _ _ _ hq
  exact bodyPost_ret (v := Tr (.slice (some ⟨g, 0, none⟩) n cap)) (by simp [results, Tryz.results70, go_sem, ha, g0]) rfl
    ⟨g, cap, n, rfl, h1, h2, h3, by omega, hI.chg ((Chg.refl _ _).setCell 0 _) (by omega), hs.setCell hB _, hC.setNew (Nat.le_refl _) _⟩
end Go.Proofs.YtmlojndkpnhalaaGreat.Trk
namespace Go.Proofs.YtmlojndkpnhalaaGreat.Trk
open Go.ChangeShapes Go.WideShapes Go.ChangeAt Go.RowKit
open Go.Proofs.YtmlojndkpnhalaaGreat.Num Go.Proofs.YtmlojndkpnhalaaGreat.Kit Go.Proofs.YtmlojndkpnhalaaGreat.Pts Go.Proofs.YtmlojndkpnhalaaGreat.Draw
set_option linter.unusedVariables false
set_option linter.unusedSimpArgs false
theorem step_append_own {P : Program} {ops : Array Oper} {o : Oper} {a : Act} {w : World} {K : Act → World → Prop} {Q : Exit → Act → World → Prop} {E : Prop}
    (hg : o.guard = none) (s x : Operand) (t : TypeId) (hop : o.op = Op.call { callee := Callee.builtin Builtin.append, args := #[s, x], argTypes := #[t, t] })
    (base : Nat) (e : TypeId) (i : TypeInfo) (z : Value) (size bytes : Nat) (h1 : P.underlying t = some (.slice e)) (h2 : P.info? e = some i) (h3 : i.zero = some z) (h4 : i.size = size) (h5 : i.bytes = bytes) (h6 : z.cells.size = size) (h7 : 0 < size)
    (v : Value) (n : Nat) (xs : List Value) (hs : a.eval s = v) (hown : w.ownsRow base e size v n xs)
    (ad : Addr) (m c : Nat) (news : List Value) (hx : a.eval x = .slice (some ad) m c) (hn : news.length = m * size) (hc : ∀ j u, news[j]? = some u → w.cell? (ad.add j) = some u) (h1c : ∀ u ∈ news, u.oneCell' = true)
    (b1 : n + m ≤ maxLen) (b2 : (n + m) * bytes ≤ 140737488355328) (hb : base ≤ w.heap.size)
    (hK : ∀ v' w', w'.ownsRow base e size v' (n + m) (xs ++ news) → w.grownBy w' v.ownBlock → K (a.put o.dst v') w') :
    if Region.wanted o (yielded ops a.tmps) = true then Oper.wp P o a w K Q else E := by
  rw [if_pos (by simp [Region.wanted, hg])]
  exact wp_append_own w s x t hop base e i z size bytes h1 h2 h3 h4 h5 h6 h7 v n xs hs hown ad m c news hx hn hc h1c b1 b2 hb (fun v' w' k1 k2 _ => hK v' w' k1 k2)
theorem ResC.of1 {WL W : World} {n : Nat} {x : Value} (h : Box WL n [x]) (k : Ext WL W) : ResC WL n 1 W :=
  ResC.ext ⟨Chg.refl _ _, fun i hi => match i, hi with
    | 0, _ => ⟨x, h 0 x rfl⟩⟩ k
theorem Own.cells {w : World} {g : Nat} {fs : List F3} (h : Own w g fs) : ∀ (j : Nat) (u : Value), (cellsF fs)[j]? = some u → w.cell? ((⟨g, 0, none⟩ : Addr).add j) = some u := by
  intro j u hu
  rw [show (⟨g, 0, none⟩ : Addr).add j = ⟨g, j, none⟩ by simp [Addr.add]; omega]
  have hj : j < fs.length * 3 := by rw [← cellsF_len]; exact (List.getElem?_eq_some_iff.1 hu).1
  obtain ⟨⟨c0, c1, c2⟩, _⟩ := h (j / 3) (by omega)
  obtain ⟨d0, d1, d2⟩ := cellsF_get fs (j / 3) (by omega)
  rcases (show j = j / 3 * 3 ∨ j = j / 3 * 3 + 1 ∨ j = j / 3 * 3 + 2 by omega) with e | e | e
  · rw [e] at hu ⊢; rw [d0] at hu; cases hu; exact c0
  · rw [e] at hu ⊢; rw [d1] at hu; cases hu; exact c1
  · rw [e] at hu ⊢; rw [d2] at hu; cases hu; exact c2
theorem adr (n j : Nat) : (⟨n, 0, none⟩ : Addr).add j = ⟨n, j, none⟩ := by simp [Addr.add]; omega
def SrcC (W : World) (B : Nat) (w' : World) : Prop := Chg B W w' ∧ Src w' B
def RelK (w : World) (B T : Nat) (wr : World) : Prop :=
  ∃ (g cap n : Nat), 2 ≤ n ∧ n ≤ 41 ∧ n ≤ cap ∧ w.heap.size < g ∧ g ≠ T ∧ Box wr T [.slice (some ⟨g, 0, none⟩) n cap] ∧ Box wr w.heap.size [.slice none 0 0] ∧ IntRow wr g n ∧ Src wr B ∧ Chg B w wr
def lenAt (wr : World) (T : Nat) : Nat := match wr.cell? ⟨T, 0, none⟩ with
  | some (.slice _ n _) => n
  | _ => 0
theorem lenAt_eq {wr : World} {T n cap : Nat} {a : Option Addr} (h : wr.cell? ⟨T, 0, none⟩ = some (.slice a n cap)) : lenAt wr T = n := by unfold lenAt; rw [h]
end Go.Proofs.YtmlojndkpnhalaaGreat.Trk
namespace Go.Proofs.YtmlojndkpnhalaaGreat.Trk
open Go.ChangeShapes Go.WideShapes Go.ChangeAt Go.RowKit
open Go.Proofs.YtmlojndkpnhalaaGreat.Num Go.Proofs.YtmlojndkpnhalaaGreat.Kit Go.Proofs.YtmlojndkpnhalaaGreat.Pts Go.Proofs.YtmlojndkpnhalaaGreat.Draw
set_option linter.unusedVariables false
set_option linter.unusedSimpArgs false
set_option maxRecDepth 100000 in
set_option maxHeartbeats 2000000 in
theorem drawAnyT_any (B : Nat) (w : World) (hs : Src w B) : Calls Tryz.prog 70 #[.pointer (some ⟨B, 0, none⟩)] w (AnyT B w) := by
  have hB := hs.lt
  have hn0 : w.heap.size ≠ B := by omega
  go_enter Tryz.func70, Tryz.ntmps70
  go_wp2_with fail
  refine (draw_any _ _ (by repeat (first | with_reducible assumption | with_reducible apply Src.alloc | with_reducible apply Src.drew | with_reducible apply Src.drewN))).mono ?_
  rintro e w1 ⟨v, fs, rfl, h2, h8, hO, hs1, hc1⟩
  obtain ⟨a, cap, rfl, hcap, hF, hg⟩ := hO.fxs
  rcases hg with hg | ⟨g, rfl, hg, hOwn⟩
  · rw [hg] at h2; simp at h2
  have hI := hOwn.ints
  have hgl : g < w1.heap.size := World.block_lt_of_cell? w1 _ (hOwn 0 (by omega)).1.1
  simp at hg
  have R1 := ((Box.new (w := w) (vs := [.slice none 0 0]) (t := 33) rfl).chg hc1 hn0)
  generalize fs.length = n at *
  have hgB : g ≠ B := by omega
  have hTB : w1.heap.size ≠ B := by omega
  have T1 := Box.new (w := w1) (vs := [.slice (some ⟨g, 0, none⟩) n cap]) (t := 33) rfl
  have C1 := (((Chg.refl B w).alloc (.cells #[.slice none 0 0] 33)).trans hc1).alloc (.cells #[.slice (some ⟨g, 0, none⟩) n cap] 33)
  clear hO hF hOwn hc1
  go_wp2_with fail
  refine (next_pos _ _ _ (hs1.alloc _) (by omega)).mono ?_
  rintro e w2 ⟨r, rfl, r0, r1, hs2, hc2⟩
  obtain ⟨k, rfl⟩ := Int.eq_ofNat_of_zero_le r0
  have I2 := (hI.ext ((Ext.refl _).alloc _)).chg hc2 hgB
  have R2 := (R1.alloc _).chg hc2 hn0
  have T2 := T1.chg hc2 hTB
  have C2 := C1.trans hc2
  clear hI R1 T1 C1 hs1 hc2
  go_wp2_with fail
  refine (next_pos _ _ _ hs2 (by omega)).mono ?_
  rintro e w3 ⟨q, rfl, q0, q1, hs3, hc3⟩
  have I3 := Lib.hid (I2.chg hc3 hgB)
  have R3 := Lib.hid (R2.chg hc3 hn0)
  have T3 := Lib.hid (T2.chg hc3 hTB)
  have C3 := Lib.hid (C2.trans hc3)
  have S3 := Lib.hid hs3
  clear I2 R2 T2 C2 hs2 hs3 hc3
  obtain ⟨t0, tf⟩ := T3.out 0 _ rfl
  obtain ⟨rr0, rf⟩ := R3.out 0 _ rfl
  have ki : (k : Int) < (n : Int) := by omega
  have k0 : (0 : Int) ≤ (k : Int) := by omega
  have ni : (1 : Int) ≤ (cap : Int) := by omega
  have nT : w1.heap.size ≠ w.heap.size := by omega
  have oth : ∀ (W : World) (a b : Addr) (u : Value), a.block ≠ b.block → (W.setCell a u).cell? b = W.cell? b := fun W a b u h => World.cell?_setCell_other _ _ _ _ (fun e => h (by rw [e]))
  rcases (show q = 0 ∨ q = 1 ∨ q = 2 ∨ q = 3 ∨ q = 4 ∨ (q ≠ 0 ∧ q ≠ 1 ∧ q ≠ 2 ∧ q ≠ 3 ∧ q ≠ 4) by omega) with rfl | rfl | rfl | rfl | rfl | ⟨e0, e1, e2, e3, e4⟩
  · go_wp2
    exact anyT_done (F := w3.setCell ⟨w1.heap.size, 0, none⟩ (.slice (some ⟨g, 0, none⟩) 1 cap)) (by rw [oth _ _ _ _ nT]; exact rr0) hB (by omega) (by omega) (by omega) (by omega) ((I3.out.less (by omega)).chg ((Chg.refl _ _).setCell 0 _) (by omega)) (S3.out.setCell (by simp; omega) _) (C3.out.setNew (by simp; omega) _) rfl
  · have T1 : ∀ r : Int, 0 ≤ r → r < 4 → ∃ v : Int, (#[Value.int .i64 (-1), Value.int .i64 0, Value.int .i64 1000000001, Value.int .i64 300] : Array Value)[r.toNat]? = some (.int .i64 v) ∧ (∀ (h : r.toNat < [Value.int .i64 (-1), Value.int .i64 0, Value.int .i64 1000000001, Value.int .i64 300].length), [Value.int .i64 (-1), Value.int .i64 0, Value.int .i64 1000000001, Value.int .i64 300][r.toNat]'h = .int .i64 v) := fun r h0 h4 => by
      obtain ⟨m, rfl⟩ := Int.eq_ofNat_of_zero_le h0
      rw [Int.toNat_natCast]
      rcases (show m = 0 ∨ m = 1 ∨ m = 2 ∨ m = 3 by omega) with rfl | rfl | rfl | rfl
      · exact ⟨_, rfl, fun _ => rfl⟩
      · exact ⟨_, rfl, fun _ => rfl⟩
      · exact ⟨_, rfl, fun _ => rfl⟩
      · exact ⟨_, rfl, fun _ => rfl⟩
    obtain ⟨⟨z, d0⟩, f0⟩ := I3.out (k * 3) (by omega)
    have t9 := fun A => ((Ext.refl w3).alloc A).cellOf t0
    go_wp2_with fail
    go_region_law (first | (go_simp; go_at_call 68; refine (next_pos _ _ _ (by repeat (first | exact S3.out | apply Src.drew | apply Src.alloc)) (by omega)).mono ?_; rintro e w4 ⟨r4, rfl, r40, r41, S4, c4⟩; (replace rf := c4.thawOf (a := ⟨w.heap.size, 0, none⟩) hn0 (Ext.cellOf (by repeat (first | exact Ext.refl _ | with_reducible apply Ext.alloc | with_reducible apply Ext.drew)) (R3.out 0 _ rfl).1) (Ext.thawOf (by repeat (first | exact Ext.refl _ | with_reducible apply Ext.alloc | with_reducible apply Ext.drew)) (R3.out 0 _ rfl).1 rf)); have I4 := Lib.hid ((I3.out.ext (by repeat (first | exact Ext.refl _ | with_reducible apply Ext.alloc | with_reducible apply Ext.drew))).chg c4 hgB); have C4 := Lib.hid ((C3.out.trans (Chg.of_ext (B := B) (by repeat (first | exact Ext.refl _ | with_reducible apply Ext.alloc | with_reducible apply Ext.drew)))).trans c4); (replace rr0 := c4.cellOf (a := ⟨w.heap.size, 0, none⟩) hn0 (Ext.cellOf (by repeat (first | exact Ext.refl _ | with_reducible apply Ext.alloc | with_reducible apply Ext.drew)) rr0)); have hcf := c4.facts.1; have hz := c4.size; (try simp at hz); have hn4 : w3.heap.size ≠ B := Nat.ne_of_gt S3.out.lt; have hn5 := Nat.ne_of_gt S4.lt; (replace f0 := c4.thawOf (a := ⟨g, k * 3, none⟩) hgB (Ext.cellOf (by repeat (first | exact Ext.refl _ | with_reducible apply Ext.alloc | with_reducible apply Ext.drew)) d0) (Ext.thawOf (by repeat (first | exact Ext.refl _ | with_reducible apply Ext.alloc | with_reducible apply Ext.drew)) d0 f0)); (replace d0 := c4.cellOf (a := ⟨g, k * 3, none⟩) hgB (Ext.cellOf (by repeat (first | exact Ext.refl _ | with_reducible apply Ext.alloc | with_reducible apply Ext.drew)) d0)); (replace t0 := c4.cellOf (a := ⟨w1.heap.size, 0, none⟩) hTB (Ext.cellOf (by repeat (first | exact Ext.refl _ | with_reducible apply Ext.alloc | with_reducible apply Ext.drew)) t0)); (replace tf := c4.thawOf (a := ⟨w1.heap.size, 0, none⟩) hTB (Ext.cellOf (by repeat (first | exact Ext.refl _ | with_reducible apply Ext.alloc | with_reducible apply Ext.drew)) (T3.out 0 _ rfl).1) (Ext.thawOf (by repeat (first | exact Ext.refl _ | with_reducible apply Ext.alloc | with_reducible apply Ext.drew)) (T3.out 0 _ rfl).1 tf)); (have d1 := fun A => ((Ext.refl w4).alloc A).cellOf d0); (have f1 := fun A => ((Ext.refl w4).alloc A).thawOf d0 f0); (have t1 := fun A => ((Ext.refl w4).alloc A).cellOf t0); (have rr1 := fun A => ((Ext.refl w4).alloc A).cellOf rr0); (have rf1 := fun A => ((Ext.refl w4).alloc A).thawOf rr0 rf); obtain ⟨v4, hv4, hw4⟩ := T1 r4 r40 r41))
    all_goals
      clear hcf
      go_wp2
      refine anyT_done (q0 := .slice none 0 0) ?_ hB ?_ ?_ hcap ?_ ?_ ?_ ?_ rfl
      · rw [oth _ _ _ _ (by simp; omega)]; exact Ext.cellOf (by repeat (first | exact Ext.refl _ | with_reducible apply Ext.alloc | with_reducible apply Ext.drew)) rr0
      · omega
      · omega
      · omega
      · exact (I4.out.ext (by repeat (first | exact Ext.refl _ | with_reducible apply Ext.alloc | with_reducible apply Ext.drew))).set _ _
      · exact Src.setCell (Src.ext S4 (by repeat (first | exact Ext.refl _ | with_reducible apply Ext.alloc | with_reducible apply Ext.drew))) (by simp; omega) _
      · exact (C4.out.trans (Chg.of_ext (B := B) (by repeat (first | exact Ext.refl _ | with_reducible apply Ext.alloc | with_reducible apply Ext.drew)))).setNew (by simp; omega) _
  · obtain ⟨⟨z, d0⟩, f0⟩ := I3.out (k * 3 + 1) (by omega)
    go_wp2
    exact anyT_done (F := w3.setCell ⟨g, k * 3 + 1, none⟩ (.int .i64 1000001)) (by rw [oth _ _ _ _ (by simp; omega)]; exact rr0) hB (by omega) (by omega) hcap (by omega) (I3.out.set _ _) (S3.out.setCell (by simp; omega) _) (C3.out.setNew (by simp; omega) _) rfl
  · obtain ⟨i0, hi, hz0', hz1', hz2'⟩ := info_parts fixInfo
    go_wp2
    go_loopw [5] (fun i wr => RelK w B w1.heap.size wr) (fun i wr => 42 - lenAt wr w1.heap.size)
    case atStart => exact ⟨g, cap, n, h2, by omega, hcap, by omega, by omega, T3.out, R3.out, I3.out, S3.out, C3.out⟩
    case round =>
      obtain ⟨g, cap, n, h2, h41, hcap, hg, hgT, hT, hR, hI, hS, hC⟩ := hrel
      have hgB : g ≠ B := by omega
      have HT := Lib.hid hT
      have HR := Lib.hid hR
      have HI := Lib.hid hI
      have HC := Lib.hid hC
      have hlen := lenAt_eq (hT 0 _ rfl).1
      have et : ∀ w', SrcC wr B w' → w'.cell? ⟨w1.heap.size, 0, none⟩ = some (.slice (some ⟨g, 0, none⟩) n cap) := fun w' h => h.1.cellOf hTB (hT 0 _ rfl).1
      have hS0 : SrcC wr B wr.drew := ⟨(Chg.refl _ _).drew, hS.drew⟩
      clear hT hR hI hC t0 tf rr0 rf
      go_wp2_with fail
      refine wp_region_held_drew (S := (SrcC wr B)) (by kernel_rfl) (by (try dsimp only); first | go_keep | exact (Ext.refl _).drew | exact Res.new2.drew | exact Res.new4.drew | exact ResB.drew (by assumption) | exact ResC.drew (by assumption) | assumption | exact Ext.drew (by assumption) | exact Res.drew (by assumption)) (fun hHeld => ?_)
      refine Ord.K 0 42 ?_
      refine Ord.K 1 43 ?_
      refine Ord.K 2 44 ?_
      refine Ord.K 3 45 ?_
      (refine wpAnyH_ready (rs := [4]) (by kernel_rfl) (by simp) ?_; refine AllReadyH.cons rfl (fun K hK => ?_) AllReadyH.nil; go_simp; (go_at_call 68; refine (next_pos _ _ _ (by assumption : SrcC _ _ _).2 (by omega)).mono ?_; rintro e w4 ⟨r4, rfl, r40, r41, S4, c4⟩; have hS4 : SrcC wr B w4 := ⟨(by assumption : SrcC _ _ _).1.trans c4, S4⟩; have D4 : IntKind.i64.wrap (40 + r4) = 40 + r4 := IntWalk.i64_in _ (by omega)); go_wp2_with fail; (refine hK.out _ _ (by first | assumption | exact Ext.trans (by assumption) hy | exact Res.ext (by assumption) hy | exact ResB.ext (by assumption) hy | exact ResC.ext (by assumption) hy | (go_split_ands; (repeat' apply And.intro) <;> exact Ext.cellOf hy (by assumption))) (fun hHeld => ?_)); clear hK K; (try simp only [Act.put, Ord.a, Ord.b, Ord.c]))
      refine Ord.K 5 47 ?_
      refine Ord.K 6 48 ?_
      refine wpAnyH_done (by kernel_rfl) ?_ _
      have c5 : Chg B wr w4 := hHeld.1
      have I4 := Lib.hid (HI.out.chg c5 hgB)
      have T4 := Lib.hid (HT.out.chg c5 hTB)
      have R4 := Lib.hid (HR.out.chg c5 hn0)
      have C4 := Lib.hid (HC.out.trans c5)
      have S5 := Lib.hid S4
      obtain ⟨t0, tf⟩ := T4.out 0 _ rfl
      obtain ⟨rr0, rf⟩ := R4.out 0 _ rfl
      clear c4 c5 et HI HT HR HC hS0 hS4 hHeld S4
      by_cases hn : (n : Int) < 40 + r4
      · have hn40 : n ≤ 40 := by omega
        obtain ⟨⟨z0, d0⟩, e0⟩ := I4.out ((n - 1) * 3) (by omega)
        obtain ⟨⟨z1, d1⟩, e1⟩ := I4.out ((n - 1) * 3 + 1) (by omega)
        obtain ⟨⟨z2, d2⟩, e2⟩ := I4.out ((n - 1) * 3 + 2) (by omega)
        have j0 : (0 : Int) ≤ (n : Int) - 1 := by omega
        have j1 : (n : Int) - 1 < (n : Int) := by omega
        have X0 : IntKind.i64.wrap ((n : Int) - 1) = (n : Int) - 1 := IntWalk.i64_in _ (by omega)
        have X1 : ((n : Int) - 1).toNat = n - 1 := by omega
        have X2 : (1 : Int) ≤ (n : Int) := by omega
        go_wp2_with fail
        --TREE
        obtain ⟨fs, rfl, hOwn⟩ := IntRow.own n I4.out
        have hOc := hOwn.cells
        have hlen2 := hlen
        have zT : w1.heap.size < w4.heap.size := World.block_lt_of_cell? w4 _ t0
        generalize hwf : w4.alloc (.cells #[.int .i64 z0, .int .i64 z1, .int .i64 z2] 53) = wf
        have hX : Ext w4 wf := hwf ▸ (Ext.refl w4).alloc _
        have zF : w4.heap.size < wf.heap.size := by rw [← hwf]; simp
        have Tb := T4.out.ext hX
        have ef0 : ∀ w', ResC wf w1.heap.size 1 w' → w'.cell? ⟨w4.heap.size, 0, none⟩ = some (.int .i64 z0) := fun w' h => h.cell (by simp; omega) (hwf ▸ boxed 0 rfl rfl)
        have ef1 : ∀ w', ResC wf w1.heap.size 1 w' → w'.cell? ⟨w4.heap.size, 1, none⟩ = some (.int .i64 z1) := fun w' h => h.cell (by simp; omega) (hwf ▸ boxed 1 rfl rfl)
        have ef2 : ∀ w', ResC wf w1.heap.size 1 w' → w'.cell? ⟨w4.heap.size, 2, none⟩ = some (.int .i64 z2) := fun w' h => h.cell (by simp; omega) (hwf ▸ boxed 2 rfl rfl)
        clear t0 tf d0 d1 d2 e0 e1 e2 hwf hlen
        refine wp_region_held_drew (S := ResC wf w1.heap.size 1) (by kernel_rfl) (by (try dsimp only); exact ResC.of1 Tb (Ext.refl _).drew) (fun hHeld => ?_)
        refine Ord.K 1 58 ?_; refine Ord.K 4 61 ?_; refine Ord.K 5 62 ?_; refine Ord.K 6 63 ?_; refine Ord.K 7 64 ?_; refine Ord.K 8 65 ?_; refine Ord.K 9 66 ?_; refine Ord.K 10 67 ?_; refine Ord.K 11 68 ?_
        clear ef0 ef1 ef2
        have hE : Ext wf wf.drew := (Ext.refl wf).drew
        obtain ⟨V0, hV0⟩ : ∃ V0, V0 = wf.drew := ⟨_, rfl⟩
        rw [← hV0] at hE hHeld ⊢
        clear hV0
        refine wpAnyH_ready (rs := [0, 2, 12]) (by kernel_rfl) (by simp) ?_
        refine (AllReadyH.cons rfl (fun K hK => ?_) (AllReadyH.cons rfl (fun K hK => ?_) (AllReadyH.cons rfl (fun K hK => ?_) AllReadyH.nil)))
        · go_simp
          have hE' : Ext wf (V0.alloc (.cells #[] 53)) := hE.alloc _
          refine hK.out _ _ (ResC.of1 Tb hE') (fun hHeld => ?_)
          clear hK K
          (try simp only [Act.put, Ord.a, Ord.b, Ord.c])
          have O1 : OwnF (V0.alloc (.cells #[] 53)) wf.heap.size (.slice (some ⟨V0.heap.size, 0, none⟩) 0 0) [] := World.ownsRow_lit (base := wf.heap.size) (e := 53) (size := 3) V0 #[] 0 hE.size (by unfold maxLen; omega) rfl
          have l0 : V0.heap.size < (V0.alloc (.cells #[] 53)).heap.size := by simp
          generalize V0.alloc (.cells #[] 53) = V1 at *
          replace hE := hE'
          refine wpAnyH_ready (rs := [2, 12]) (by kernel_rfl) (by simp) ?_
          refine (AllReadyH.cons rfl (fun K hK => ?_) (AllReadyH.cons rfl (fun K hK => ?_) AllReadyH.nil))
          · have tW := hE.cellOf (Tb 0 _ rfl).1
            go_simp
            refine hK.out _ _ hHeld (fun hHeld => ?_)
            clear hK K tW
            (try simp only [Act.put, Ord.a, Ord.b, Ord.c])
            refine wpAnyH_ready (rs := [3, 12]) (by kernel_rfl) (by simp) ?_
            refine (AllReadyH.cons rfl (fun K hK => ?_) (AllReadyH.cons rfl (fun K hK => ?_) AllReadyH.nil))
            · refine step_append_own rfl (.tmp 57) (.tmp 59) 31 rfl wf.heap.size 53 i0 (Fx 0 0 0) 3 24 Tryz.underlying31 hi hz0' hz1' hz2' rfl (by decide) (.slice (some ⟨V0.heap.size, 0, none⟩) 0 0) 0 [] (by simp [Act.eval, Act.put]) O1 ⟨g, 0, none⟩ fs.length cap (cellsF fs) (by simp [Act.eval, Act.put]) (cellsF_len fs) (fun j u hu => hE.cellOf (hX.cellOf (hOc j u hu))) (cellsF_one fs) (by unfold maxLen; omega) (by omega) hE.size ?_
              intro v1 V3 hown hgrow
              have hE' : Ext wf V3 := grown_ext (w0 := wf) O1 hgrow (Nat.le_refl _) hE
              have O2 : OwnF V3 wf.heap.size v1 fs := by simpa [OwnF] using hown
              refine hK.out _ _ (ResC.of1 Tb hE') (fun hHeld => ?_)
              clear hK K hown hgrow O1
              (try simp only [Act.put, Ord.a, Ord.b, Ord.c])
              replace hE := hE'
              refine wpAnyH_ready (rs := [12]) (by kernel_rfl) (by simp) ?_
              refine (AllReadyH.cons rfl (fun K hK => ?_) AllReadyH.nil)
              · go_simp
                have hE' : Ext wf (V3.alloc (.cells #[.int .i64 (IntKind.i64.wrap (z0 + 10)), .int .i64 z1, .int .i64 z2] 53)) := hE.alloc _
                refine hK.out _ _ (ResC.of1 Tb hE') (fun hHeld => ?_)
                clear hK K
                (try simp only [Act.put, Ord.a, Ord.b, Ord.c])
                have E1 : ∀ (j : Nat) (u : Value), ([.int .i64 (IntKind.i64.wrap (z0 + 10)), .int .i64 z1, .int .i64 z2] : List Value)[j]? = some u → (V3.alloc (.cells #[.int .i64 (IntKind.i64.wrap (z0 + 10)), .int .i64 z1, .int .i64 z2] 53)).cell? ((⟨V3.heap.size, 0, none⟩ : Addr).add j) = some u := one_cells
                have l1 : V3.heap.size < (V3.alloc (.cells #[.int .i64 (IntKind.i64.wrap (z0 + 10)), .int .i64 z1, .int .i64 z2] 53)).heap.size := by simp
                replace O2 := O2.ext ((Ext.refl V3).alloc (.cells #[.int .i64 (IntKind.i64.wrap (z0 + 10)), .int .i64 z1, .int .i64 z2] 53))
                generalize V3.alloc (.cells #[.int .i64 (IntKind.i64.wrap (z0 + 10)), .int .i64 z1, .int .i64 z2] 53) = V4 at *
                replace hE := hE'
                refine wpAnyH_ready (rs := [13]) (by kernel_rfl) (by simp) ?_
                refine (AllReadyH.cons rfl (fun K hK => ?_) AllReadyH.nil)
                · refine step_append_own rfl (.tmp 60) (.tmp 69) 31 rfl wf.heap.size 53 i0 (Fx 0 0 0) 3 24 Tryz.underlying31 hi hz0' hz1' hz2' rfl (by decide) v1 fs.length (cellsF fs) (by simp [Act.eval, Act.put]) O2 ⟨V3.heap.size, 0, none⟩ 1 1 [.int .i64 (IntKind.i64.wrap (z0 + 10)), .int .i64 z1, .int .i64 z2] (by simp [Act.eval, Act.put]) rfl E1 one_ones (by unfold maxLen; omega) (by omega) hE.size ?_
                  intro v2 V5 hown hgrow
                  have hE' : Ext wf V5 := grown_ext (w0 := wf) O2 hgrow (Nat.le_refl _) hE
                  have O3 := OwnF.snoc hown
                  obtain ⟨a', cap', rfl, hc', _, hg'⟩ := O3.fxs
                  rcases hg' with hg' | ⟨g', rfl, hg', hO'⟩
                  · simp at hg'
                  refine hK.out _ _ (ResC.of1 Tb hE') (fun hHeld => ?_)
                  clear hK K hown hgrow O2 E1
                  (try simp only [Act.put, Ord.a, Ord.b, Ord.c])
                  replace hE := hE'
                  refine Ord.K 14 71 ?_
                  refine wpAnyH_ready (rs := [15]) (by kernel_rfl) (by simp) ?_
                  refine (AllReadyH.cons rfl (fun K hK => ?_) AllReadyH.nil)
                  · have tW := hE.cellOf (Tb 0 _ rfl).1
                    have tfW := hE.thawOf (Tb 0 _ rfl).1 (Tb 0 _ rfl).2
                    go_simp
                    refine hK.out _ _ (ResC.set hHeld 0 _) (fun hHeld => ?_)
                    clear hK K tW tfW
                    (try simp only [Act.put, Ord.a, Ord.b, Ord.c])
                    refine wpAnyH_done (by kernel_rfl) ?_ _
                    go_wp2
                    go_roundw
                    case rel => exact ⟨g', cap', fs.length + 1, by omega, by omega, by simpa using hc', by omega, by omega, (Tb.ext hE).set 0 (by simp) _, ((R4.out.ext hX).ext hE).away (by simp; omega) _, (show IntRow _ g' (fs.length + 1) by simpa using Own.ints hO').chg ((Chg.refl _ _).setCell 0 _) (by omega), Src.setCell (Src.ext (Src.ext S5.out hX) hE) (by simp; omega) _, (C4.out.trans (Chg.of_ext (hX.trans hE))).setNew (by simp; omega) _⟩
                    case measure => rw [lenAt_eq (World.cell?_setCell_same _ _ _ ((Tb.ext hE) 0 _ rfl).1), hlen2]; simp; omega
            · go_simp
              have hE' : Ext wf (V1.alloc (.cells #[.int .i64 (IntKind.i64.wrap (z0 + 10)), .int .i64 z1, .int .i64 z2] 53)) := hE.alloc _
              refine hK.out _ _ (ResC.of1 Tb hE') (fun hHeld => ?_)
              clear hK K
              (try simp only [Act.put, Ord.a, Ord.b, Ord.c])
              have E1 : ∀ (j : Nat) (u : Value), ([.int .i64 (IntKind.i64.wrap (z0 + 10)), .int .i64 z1, .int .i64 z2] : List Value)[j]? = some u → (V1.alloc (.cells #[.int .i64 (IntKind.i64.wrap (z0 + 10)), .int .i64 z1, .int .i64 z2] 53)).cell? ((⟨V1.heap.size, 0, none⟩ : Addr).add j) = some u := one_cells
              have l1 : V1.heap.size < (V1.alloc (.cells #[.int .i64 (IntKind.i64.wrap (z0 + 10)), .int .i64 z1, .int .i64 z2] 53)).heap.size := by simp
              replace O1 := O1.ext ((Ext.refl V1).alloc (.cells #[.int .i64 (IntKind.i64.wrap (z0 + 10)), .int .i64 z1, .int .i64 z2] 53))
              have l01 : V0.heap.size ≠ V1.heap.size := by omega
              generalize V1.alloc (.cells #[.int .i64 (IntKind.i64.wrap (z0 + 10)), .int .i64 z1, .int .i64 z2] 53) = V3 at *
              replace hE := hE'
              refine wpAnyH_ready (rs := [3]) (by kernel_rfl) (by simp) ?_
              refine (AllReadyH.cons rfl (fun K hK => ?_) AllReadyH.nil)
              · refine step_append_own rfl (.tmp 57) (.tmp 59) 31 rfl wf.heap.size 53 i0 (Fx 0 0 0) 3 24 Tryz.underlying31 hi hz0' hz1' hz2' rfl (by decide) (.slice (some ⟨V0.heap.size, 0, none⟩) 0 0) 0 [] (by simp [Act.eval, Act.put]) O1 ⟨g, 0, none⟩ fs.length cap (cellsF fs) (by simp [Act.eval, Act.put]) (cellsF_len fs) (fun j u hu => hE.cellOf (hX.cellOf (hOc j u hu))) (cellsF_one fs) (by unfold maxLen; omega) (by omega) hE.size ?_
                intro v1 V4 hown hgrow
                have hE' : Ext wf V4 := grown_ext (w0 := wf) O1 hgrow (Nat.le_refl _) hE
                have O2 : OwnF V4 wf.heap.size v1 fs := by simpa [OwnF] using hown
                replace E1 : ∀ (j : Nat) (u : Value), ([.int .i64 (IntKind.i64.wrap (z0 + 10)), .int .i64 z1, .int .i64 z2] : List Value)[j]? = some u → V4.cell? ((⟨V1.heap.size, 0, none⟩ : Addr).add j) = some u := fun j u hu => by have h := E1 j u hu; rw [adr] at h ⊢; exact World.grownBy.cell hgrow h (fun e => l01 (by simpa [Value.ownBlock] using e.symm))
                refine hK.out _ _ (ResC.of1 Tb hE') (fun hHeld => ?_)
                clear hK K hown hgrow O1
                (try simp only [Act.put, Ord.a, Ord.b, Ord.c])
                replace hE := hE'
                refine wpAnyH_ready (rs := [13]) (by kernel_rfl) (by simp) ?_
                refine (AllReadyH.cons rfl (fun K hK => ?_) AllReadyH.nil)
                · refine step_append_own rfl (.tmp 60) (.tmp 69) 31 rfl wf.heap.size 53 i0 (Fx 0 0 0) 3 24 Tryz.underlying31 hi hz0' hz1' hz2' rfl (by decide) v1 fs.length (cellsF fs) (by simp [Act.eval, Act.put]) O2 ⟨V1.heap.size, 0, none⟩ 1 1 [.int .i64 (IntKind.i64.wrap (z0 + 10)), .int .i64 z1, .int .i64 z2] (by simp [Act.eval, Act.put]) rfl E1 one_ones (by unfold maxLen; omega) (by omega) hE.size ?_
                  intro v2 V5 hown hgrow
                  have hE' : Ext wf V5 := grown_ext (w0 := wf) O2 hgrow (Nat.le_refl _) hE
                  have O3 := OwnF.snoc hown
                  obtain ⟨a', cap', rfl, hc', _, hg'⟩ := O3.fxs
                  rcases hg' with hg' | ⟨g', rfl, hg', hO'⟩
                  · simp at hg'
                  refine hK.out _ _ (ResC.of1 Tb hE') (fun hHeld => ?_)
                  clear hK K hown hgrow O2 E1
                  (try simp only [Act.put, Ord.a, Ord.b, Ord.c])
                  replace hE := hE'
                  refine Ord.K 14 71 ?_
                  refine wpAnyH_ready (rs := [15]) (by kernel_rfl) (by simp) ?_
                  refine (AllReadyH.cons rfl (fun K hK => ?_) AllReadyH.nil)
                  · have tW := hE.cellOf (Tb 0 _ rfl).1
                    have tfW := hE.thawOf (Tb 0 _ rfl).1 (Tb 0 _ rfl).2
                    go_simp
                    refine hK.out _ _ (ResC.set hHeld 0 _) (fun hHeld => ?_)
                    clear hK K tW tfW
                    (try simp only [Act.put, Ord.a, Ord.b, Ord.c])
                    refine wpAnyH_done (by kernel_rfl) ?_ _
                    go_wp2
                    go_roundw
                    case rel => exact ⟨g', cap', fs.length + 1, by omega, by omega, by simpa using hc', by omega, by omega, (Tb.ext hE).set 0 (by simp) _, ((R4.out.ext hX).ext hE).away (by simp; omega) _, (show IntRow _ g' (fs.length + 1) by simpa using Own.ints hO').chg ((Chg.refl _ _).setCell 0 _) (by omega), Src.setCell (Src.ext (Src.ext S5.out hX) hE) (by simp; omega) _, (C4.out.trans (Chg.of_ext (hX.trans hE))).setNew (by simp; omega) _⟩
                    case measure => rw [lenAt_eq (World.cell?_setCell_same _ _ _ ((Tb.ext hE) 0 _ rfl).1), hlen2]; simp; omega
          · go_simp
            have hE' : Ext wf (V1.alloc (.cells #[.int .i64 (IntKind.i64.wrap (z0 + 10)), .int .i64 z1, .int .i64 z2] 53)) := hE.alloc _
            refine hK.out _ _ (ResC.of1 Tb hE') (fun hHeld => ?_)
            clear hK K
            (try simp only [Act.put, Ord.a, Ord.b, Ord.c])
            have E1 : ∀ (j : Nat) (u : Value), ([.int .i64 (IntKind.i64.wrap (z0 + 10)), .int .i64 z1, .int .i64 z2] : List Value)[j]? = some u → (V1.alloc (.cells #[.int .i64 (IntKind.i64.wrap (z0 + 10)), .int .i64 z1, .int .i64 z2] 53)).cell? ((⟨V1.heap.size, 0, none⟩ : Addr).add j) = some u := one_cells
            have l1 : V1.heap.size < (V1.alloc (.cells #[.int .i64 (IntKind.i64.wrap (z0 + 10)), .int .i64 z1, .int .i64 z2] 53)).heap.size := by simp
            replace O1 := O1.ext ((Ext.refl V1).alloc (.cells #[.int .i64 (IntKind.i64.wrap (z0 + 10)), .int .i64 z1, .int .i64 z2] 53))
            have l01 : V0.heap.size ≠ V1.heap.size := by omega
            generalize V1.alloc (.cells #[.int .i64 (IntKind.i64.wrap (z0 + 10)), .int .i64 z1, .int .i64 z2] 53) = V2 at *
            replace hE := hE'
            refine wpAnyH_ready (rs := [2]) (by kernel_rfl) (by simp) ?_
            refine (AllReadyH.cons rfl (fun K hK => ?_) AllReadyH.nil)
            · have tW := hE.cellOf (Tb 0 _ rfl).1
              go_simp
              refine hK.out _ _ hHeld (fun hHeld => ?_)
              clear hK K tW
              (try simp only [Act.put, Ord.a, Ord.b, Ord.c])
              refine wpAnyH_ready (rs := [3]) (by kernel_rfl) (by simp) ?_
              refine (AllReadyH.cons rfl (fun K hK => ?_) AllReadyH.nil)
              · refine step_append_own rfl (.tmp 57) (.tmp 59) 31 rfl wf.heap.size 53 i0 (Fx 0 0 0) 3 24 Tryz.underlying31 hi hz0' hz1' hz2' rfl (by decide) (.slice (some ⟨V0.heap.size, 0, none⟩) 0 0) 0 [] (by simp [Act.eval, Act.put]) O1 ⟨g, 0, none⟩ fs.length cap (cellsF fs) (by simp [Act.eval, Act.put]) (cellsF_len fs) (fun j u hu => hE.cellOf (hX.cellOf (hOc j u hu))) (cellsF_one fs) (by unfold maxLen; omega) (by omega) hE.size ?_
                intro v1 V4 hown hgrow
                have hE' : Ext wf V4 := grown_ext (w0 := wf) O1 hgrow (Nat.le_refl _) hE
                have O2 : OwnF V4 wf.heap.size v1 fs := by simpa [OwnF] using hown
                replace E1 : ∀ (j : Nat) (u : Value), ([.int .i64 (IntKind.i64.wrap (z0 + 10)), .int .i64 z1, .int .i64 z2] : List Value)[j]? = some u → V4.cell? ((⟨V1.heap.size, 0, none⟩ : Addr).add j) = some u := fun j u hu => by have h := E1 j u hu; rw [adr] at h ⊢; exact World.grownBy.cell hgrow h (fun e => l01 (by simpa [Value.ownBlock] using e.symm))
                refine hK.out _ _ (ResC.of1 Tb hE') (fun hHeld => ?_)
                clear hK K hown hgrow O1
                (try simp only [Act.put, Ord.a, Ord.b, Ord.c])
                replace hE := hE'
                refine wpAnyH_ready (rs := [13]) (by kernel_rfl) (by simp) ?_
                refine (AllReadyH.cons rfl (fun K hK => ?_) AllReadyH.nil)
                · refine step_append_own rfl (.tmp 60) (.tmp 69) 31 rfl wf.heap.size 53 i0 (Fx 0 0 0) 3 24 Tryz.underlying31 hi hz0' hz1' hz2' rfl (by decide) v1 fs.length (cellsF fs) (by simp [Act.eval, Act.put]) O2 ⟨V1.heap.size, 0, none⟩ 1 1 [.int .i64 (IntKind.i64.wrap (z0 + 10)), .int .i64 z1, .int .i64 z2] (by simp [Act.eval, Act.put]) rfl E1 one_ones (by unfold maxLen; omega) (by omega) hE.size ?_
                  intro v2 V5 hown hgrow
                  have hE' : Ext wf V5 := grown_ext (w0 := wf) O2 hgrow (Nat.le_refl _) hE
                  have O3 := OwnF.snoc hown
                  obtain ⟨a', cap', rfl, hc', _, hg'⟩ := O3.fxs
                  rcases hg' with hg' | ⟨g', rfl, hg', hO'⟩
                  · simp at hg'
                  refine hK.out _ _ (ResC.of1 Tb hE') (fun hHeld => ?_)
                  clear hK K hown hgrow O2 E1
                  (try simp only [Act.put, Ord.a, Ord.b, Ord.c])
                  replace hE := hE'
                  refine Ord.K 14 71 ?_
                  refine wpAnyH_ready (rs := [15]) (by kernel_rfl) (by simp) ?_
                  refine (AllReadyH.cons rfl (fun K hK => ?_) AllReadyH.nil)
                  · have tW := hE.cellOf (Tb 0 _ rfl).1
                    have tfW := hE.thawOf (Tb 0 _ rfl).1 (Tb 0 _ rfl).2
                    go_simp
                    refine hK.out _ _ (ResC.set hHeld 0 _) (fun hHeld => ?_)
                    clear hK K tW tfW
                    (try simp only [Act.put, Ord.a, Ord.b, Ord.c])
                    refine wpAnyH_done (by kernel_rfl) ?_ _
                    go_wp2
                    go_roundw
                    case rel => exact ⟨g', cap', fs.length + 1, by omega, by omega, by simpa using hc', by omega, by omega, (Tb.ext hE).set 0 (by simp) _, ((R4.out.ext hX).ext hE).away (by simp; omega) _, (show IntRow _ g' (fs.length + 1) by simpa using Own.ints hO').chg ((Chg.refl _ _).setCell 0 _) (by omega), Src.setCell (Src.ext (Src.ext S5.out hX) hE) (by simp; omega) _, (C4.out.trans (Chg.of_ext (hX.trans hE))).setNew (by simp; omega) _⟩
                    case measure => rw [lenAt_eq (World.cell?_setCell_same _ _ _ ((Tb.ext hE) 0 _ rfl).1), hlen2]; simp; omega
        · have tW := hE.cellOf (Tb 0 _ rfl).1
          go_simp
          refine hK.out _ _ hHeld (fun hHeld => ?_)
          clear hK K tW
          (try simp only [Act.put, Ord.a, Ord.b, Ord.c])
          refine wpAnyH_ready (rs := [0, 12]) (by kernel_rfl) (by simp) ?_
          refine (AllReadyH.cons rfl (fun K hK => ?_) (AllReadyH.cons rfl (fun K hK => ?_) AllReadyH.nil))
          · go_simp
            have hE' : Ext wf (V0.alloc (.cells #[] 53)) := hE.alloc _
            refine hK.out _ _ (ResC.of1 Tb hE') (fun hHeld => ?_)
            clear hK K
            (try simp only [Act.put, Ord.a, Ord.b, Ord.c])
            have O1 : OwnF (V0.alloc (.cells #[] 53)) wf.heap.size (.slice (some ⟨V0.heap.size, 0, none⟩) 0 0) [] := World.ownsRow_lit (base := wf.heap.size) (e := 53) (size := 3) V0 #[] 0 hE.size (by unfold maxLen; omega) rfl
            have l0 : V0.heap.size < (V0.alloc (.cells #[] 53)).heap.size := by simp
            generalize V0.alloc (.cells #[] 53) = V2 at *
            replace hE := hE'
            refine wpAnyH_ready (rs := [3, 12]) (by kernel_rfl) (by simp) ?_
            refine (AllReadyH.cons rfl (fun K hK => ?_) (AllReadyH.cons rfl (fun K hK => ?_) AllReadyH.nil))
            · refine step_append_own rfl (.tmp 57) (.tmp 59) 31 rfl wf.heap.size 53 i0 (Fx 0 0 0) 3 24 Tryz.underlying31 hi hz0' hz1' hz2' rfl (by decide) (.slice (some ⟨V0.heap.size, 0, none⟩) 0 0) 0 [] (by simp [Act.eval, Act.put]) O1 ⟨g, 0, none⟩ fs.length cap (cellsF fs) (by simp [Act.eval, Act.put]) (cellsF_len fs) (fun j u hu => hE.cellOf (hX.cellOf (hOc j u hu))) (cellsF_one fs) (by unfold maxLen; omega) (by omega) hE.size ?_
              intro v1 V3 hown hgrow
              have hE' : Ext wf V3 := grown_ext (w0 := wf) O1 hgrow (Nat.le_refl _) hE
              have O2 : OwnF V3 wf.heap.size v1 fs := by simpa [OwnF] using hown
              refine hK.out _ _ (ResC.of1 Tb hE') (fun hHeld => ?_)
              clear hK K hown hgrow O1
              (try simp only [Act.put, Ord.a, Ord.b, Ord.c])
              replace hE := hE'
              refine wpAnyH_ready (rs := [12]) (by kernel_rfl) (by simp) ?_
              refine (AllReadyH.cons rfl (fun K hK => ?_) AllReadyH.nil)
              · go_simp
                have hE' : Ext wf (V3.alloc (.cells #[.int .i64 (IntKind.i64.wrap (z0 + 10)), .int .i64 z1, .int .i64 z2] 53)) := hE.alloc _
                refine hK.out _ _ (ResC.of1 Tb hE') (fun hHeld => ?_)
                clear hK K
                (try simp only [Act.put, Ord.a, Ord.b, Ord.c])
                have E1 : ∀ (j : Nat) (u : Value), ([.int .i64 (IntKind.i64.wrap (z0 + 10)), .int .i64 z1, .int .i64 z2] : List Value)[j]? = some u → (V3.alloc (.cells #[.int .i64 (IntKind.i64.wrap (z0 + 10)), .int .i64 z1, .int .i64 z2] 53)).cell? ((⟨V3.heap.size, 0, none⟩ : Addr).add j) = some u := one_cells
                have l1 : V3.heap.size < (V3.alloc (.cells #[.int .i64 (IntKind.i64.wrap (z0 + 10)), .int .i64 z1, .int .i64 z2] 53)).heap.size := by simp
                replace O2 := O2.ext ((Ext.refl V3).alloc (.cells #[.int .i64 (IntKind.i64.wrap (z0 + 10)), .int .i64 z1, .int .i64 z2] 53))
                generalize V3.alloc (.cells #[.int .i64 (IntKind.i64.wrap (z0 + 10)), .int .i64 z1, .int .i64 z2] 53) = V4 at *
                replace hE := hE'
                refine wpAnyH_ready (rs := [13]) (by kernel_rfl) (by simp) ?_
                refine (AllReadyH.cons rfl (fun K hK => ?_) AllReadyH.nil)
                · refine step_append_own rfl (.tmp 60) (.tmp 69) 31 rfl wf.heap.size 53 i0 (Fx 0 0 0) 3 24 Tryz.underlying31 hi hz0' hz1' hz2' rfl (by decide) v1 fs.length (cellsF fs) (by simp [Act.eval, Act.put]) O2 ⟨V3.heap.size, 0, none⟩ 1 1 [.int .i64 (IntKind.i64.wrap (z0 + 10)), .int .i64 z1, .int .i64 z2] (by simp [Act.eval, Act.put]) rfl E1 one_ones (by unfold maxLen; omega) (by omega) hE.size ?_
                  intro v2 V5 hown hgrow
                  have hE' : Ext wf V5 := grown_ext (w0 := wf) O2 hgrow (Nat.le_refl _) hE
                  have O3 := OwnF.snoc hown
                  obtain ⟨a', cap', rfl, hc', _, hg'⟩ := O3.fxs
                  rcases hg' with hg' | ⟨g', rfl, hg', hO'⟩
                  · simp at hg'
                  refine hK.out _ _ (ResC.of1 Tb hE') (fun hHeld => ?_)
                  clear hK K hown hgrow O2 E1
                  (try simp only [Act.put, Ord.a, Ord.b, Ord.c])
                  replace hE := hE'
                  refine Ord.K 14 71 ?_
                  refine wpAnyH_ready (rs := [15]) (by kernel_rfl) (by simp) ?_
                  refine (AllReadyH.cons rfl (fun K hK => ?_) AllReadyH.nil)
                  · have tW := hE.cellOf (Tb 0 _ rfl).1
                    have tfW := hE.thawOf (Tb 0 _ rfl).1 (Tb 0 _ rfl).2
                    go_simp
                    refine hK.out _ _ (ResC.set hHeld 0 _) (fun hHeld => ?_)
                    clear hK K tW tfW
                    (try simp only [Act.put, Ord.a, Ord.b, Ord.c])
                    refine wpAnyH_done (by kernel_rfl) ?_ _
                    go_wp2
                    go_roundw
                    case rel => exact ⟨g', cap', fs.length + 1, by omega, by omega, by simpa using hc', by omega, by omega, (Tb.ext hE).set 0 (by simp) _, ((R4.out.ext hX).ext hE).away (by simp; omega) _, (show IntRow _ g' (fs.length + 1) by simpa using Own.ints hO').chg ((Chg.refl _ _).setCell 0 _) (by omega), Src.setCell (Src.ext (Src.ext S5.out hX) hE) (by simp; omega) _, (C4.out.trans (Chg.of_ext (hX.trans hE))).setNew (by simp; omega) _⟩
                    case measure => rw [lenAt_eq (World.cell?_setCell_same _ _ _ ((Tb.ext hE) 0 _ rfl).1), hlen2]; simp; omega
            · go_simp
              have hE' : Ext wf (V2.alloc (.cells #[.int .i64 (IntKind.i64.wrap (z0 + 10)), .int .i64 z1, .int .i64 z2] 53)) := hE.alloc _
              refine hK.out _ _ (ResC.of1 Tb hE') (fun hHeld => ?_)
              clear hK K
              (try simp only [Act.put, Ord.a, Ord.b, Ord.c])
              have E1 : ∀ (j : Nat) (u : Value), ([.int .i64 (IntKind.i64.wrap (z0 + 10)), .int .i64 z1, .int .i64 z2] : List Value)[j]? = some u → (V2.alloc (.cells #[.int .i64 (IntKind.i64.wrap (z0 + 10)), .int .i64 z1, .int .i64 z2] 53)).cell? ((⟨V2.heap.size, 0, none⟩ : Addr).add j) = some u := one_cells
              have l1 : V2.heap.size < (V2.alloc (.cells #[.int .i64 (IntKind.i64.wrap (z0 + 10)), .int .i64 z1, .int .i64 z2] 53)).heap.size := by simp
              replace O1 := O1.ext ((Ext.refl V2).alloc (.cells #[.int .i64 (IntKind.i64.wrap (z0 + 10)), .int .i64 z1, .int .i64 z2] 53))
              have l01 : V0.heap.size ≠ V2.heap.size := by omega
              generalize V2.alloc (.cells #[.int .i64 (IntKind.i64.wrap (z0 + 10)), .int .i64 z1, .int .i64 z2] 53) = V3 at *
              replace hE := hE'
              refine wpAnyH_ready (rs := [3]) (by kernel_rfl) (by simp) ?_
              refine (AllReadyH.cons rfl (fun K hK => ?_) AllReadyH.nil)
              · refine step_append_own rfl (.tmp 57) (.tmp 59) 31 rfl wf.heap.size 53 i0 (Fx 0 0 0) 3 24 Tryz.underlying31 hi hz0' hz1' hz2' rfl (by decide) (.slice (some ⟨V0.heap.size, 0, none⟩) 0 0) 0 [] (by simp [Act.eval, Act.put]) O1 ⟨g, 0, none⟩ fs.length cap (cellsF fs) (by simp [Act.eval, Act.put]) (cellsF_len fs) (fun j u hu => hE.cellOf (hX.cellOf (hOc j u hu))) (cellsF_one fs) (by unfold maxLen; omega) (by omega) hE.size ?_
                intro v1 V4 hown hgrow
                have hE' : Ext wf V4 := grown_ext (w0 := wf) O1 hgrow (Nat.le_refl _) hE
                have O2 : OwnF V4 wf.heap.size v1 fs := by simpa [OwnF] using hown
                replace E1 : ∀ (j : Nat) (u : Value), ([.int .i64 (IntKind.i64.wrap (z0 + 10)), .int .i64 z1, .int .i64 z2] : List Value)[j]? = some u → V4.cell? ((⟨V2.heap.size, 0, none⟩ : Addr).add j) = some u := fun j u hu => by have h := E1 j u hu; rw [adr] at h ⊢; exact World.grownBy.cell hgrow h (fun e => l01 (by simpa [Value.ownBlock] using e.symm))
                refine hK.out _ _ (ResC.of1 Tb hE') (fun hHeld => ?_)
                clear hK K hown hgrow O1
                (try simp only [Act.put, Ord.a, Ord.b, Ord.c])
                replace hE := hE'
                refine wpAnyH_ready (rs := [13]) (by kernel_rfl) (by simp) ?_
                refine (AllReadyH.cons rfl (fun K hK => ?_) AllReadyH.nil)
                · refine step_append_own rfl (.tmp 60) (.tmp 69) 31 rfl wf.heap.size 53 i0 (Fx 0 0 0) 3 24 Tryz.underlying31 hi hz0' hz1' hz2' rfl (by decide) v1 fs.length (cellsF fs) (by simp [Act.eval, Act.put]) O2 ⟨V2.heap.size, 0, none⟩ 1 1 [.int .i64 (IntKind.i64.wrap (z0 + 10)), .int .i64 z1, .int .i64 z2] (by simp [Act.eval, Act.put]) rfl E1 one_ones (by unfold maxLen; omega) (by omega) hE.size ?_
                  intro v2 V5 hown hgrow
                  have hE' : Ext wf V5 := grown_ext (w0 := wf) O2 hgrow (Nat.le_refl _) hE
                  have O3 := OwnF.snoc hown
                  obtain ⟨a', cap', rfl, hc', _, hg'⟩ := O3.fxs
                  rcases hg' with hg' | ⟨g', rfl, hg', hO'⟩
                  · simp at hg'
                  refine hK.out _ _ (ResC.of1 Tb hE') (fun hHeld => ?_)
                  clear hK K hown hgrow O2 E1
                  (try simp only [Act.put, Ord.a, Ord.b, Ord.c])
                  replace hE := hE'
                  refine Ord.K 14 71 ?_
                  refine wpAnyH_ready (rs := [15]) (by kernel_rfl) (by simp) ?_
                  refine (AllReadyH.cons rfl (fun K hK => ?_) AllReadyH.nil)
                  · have tW := hE.cellOf (Tb 0 _ rfl).1
                    have tfW := hE.thawOf (Tb 0 _ rfl).1 (Tb 0 _ rfl).2
                    go_simp
                    refine hK.out _ _ (ResC.set hHeld 0 _) (fun hHeld => ?_)
                    clear hK K tW tfW
                    (try simp only [Act.put, Ord.a, Ord.b, Ord.c])
                    refine wpAnyH_done (by kernel_rfl) ?_ _
                    go_wp2
                    go_roundw
                    case rel => exact ⟨g', cap', fs.length + 1, by omega, by omega, by simpa using hc', by omega, by omega, (Tb.ext hE).set 0 (by simp) _, ((R4.out.ext hX).ext hE).away (by simp; omega) _, (show IntRow _ g' (fs.length + 1) by simpa using Own.ints hO').chg ((Chg.refl _ _).setCell 0 _) (by omega), Src.setCell (Src.ext (Src.ext S5.out hX) hE) (by simp; omega) _, (C4.out.trans (Chg.of_ext (hX.trans hE))).setNew (by simp; omega) _⟩
                    case measure => rw [lenAt_eq (World.cell?_setCell_same _ _ _ ((Tb.ext hE) 0 _ rfl).1), hlen2]; simp; omega
          · go_simp
            have hE' : Ext wf (V0.alloc (.cells #[.int .i64 (IntKind.i64.wrap (z0 + 10)), .int .i64 z1, .int .i64 z2] 53)) := hE.alloc _
            refine hK.out _ _ (ResC.of1 Tb hE') (fun hHeld => ?_)
            clear hK K
            (try simp only [Act.put, Ord.a, Ord.b, Ord.c])
            have E1 : ∀ (j : Nat) (u : Value), ([.int .i64 (IntKind.i64.wrap (z0 + 10)), .int .i64 z1, .int .i64 z2] : List Value)[j]? = some u → (V0.alloc (.cells #[.int .i64 (IntKind.i64.wrap (z0 + 10)), .int .i64 z1, .int .i64 z2] 53)).cell? ((⟨V0.heap.size, 0, none⟩ : Addr).add j) = some u := one_cells
            have l1 : V0.heap.size < (V0.alloc (.cells #[.int .i64 (IntKind.i64.wrap (z0 + 10)), .int .i64 z1, .int .i64 z2] 53)).heap.size := by simp
            generalize V0.alloc (.cells #[.int .i64 (IntKind.i64.wrap (z0 + 10)), .int .i64 z1, .int .i64 z2] 53) = V2 at *
            replace hE := hE'
            refine wpAnyH_ready (rs := [0]) (by kernel_rfl) (by simp) ?_
            refine (AllReadyH.cons rfl (fun K hK => ?_) AllReadyH.nil)
            · go_simp
              have hE' : Ext wf (V2.alloc (.cells #[] 53)) := hE.alloc _
              refine hK.out _ _ (ResC.of1 Tb hE') (fun hHeld => ?_)
              clear hK K
              (try simp only [Act.put, Ord.a, Ord.b, Ord.c])
              have O1 : OwnF (V2.alloc (.cells #[] 53)) wf.heap.size (.slice (some ⟨V2.heap.size, 0, none⟩) 0 0) [] := World.ownsRow_lit (base := wf.heap.size) (e := 53) (size := 3) V2 #[] 0 hE.size (by unfold maxLen; omega) rfl
              have l0 : V2.heap.size < (V2.alloc (.cells #[] 53)).heap.size := by simp
              replace E1 : ∀ (j : Nat) (u : Value), ([.int .i64 (IntKind.i64.wrap (z0 + 10)), .int .i64 z1, .int .i64 z2] : List Value)[j]? = some u → (V2.alloc (.cells #[] 53)).cell? ((⟨V0.heap.size, 0, none⟩ : Addr).add j) = some u := fun j u hu => ((Ext.refl _).alloc _).cellOf (E1 j u hu)
              have l01 : V2.heap.size ≠ V0.heap.size := by omega
              generalize V2.alloc (.cells #[] 53) = V3 at *
              replace hE := hE'
              refine wpAnyH_ready (rs := [3]) (by kernel_rfl) (by simp) ?_
              refine (AllReadyH.cons rfl (fun K hK => ?_) AllReadyH.nil)
              · refine step_append_own rfl (.tmp 57) (.tmp 59) 31 rfl wf.heap.size 53 i0 (Fx 0 0 0) 3 24 Tryz.underlying31 hi hz0' hz1' hz2' rfl (by decide) (.slice (some ⟨V2.heap.size, 0, none⟩) 0 0) 0 [] (by simp [Act.eval, Act.put]) O1 ⟨g, 0, none⟩ fs.length cap (cellsF fs) (by simp [Act.eval, Act.put]) (cellsF_len fs) (fun j u hu => hE.cellOf (hX.cellOf (hOc j u hu))) (cellsF_one fs) (by unfold maxLen; omega) (by omega) hE.size ?_
                intro v1 V4 hown hgrow
                have hE' : Ext wf V4 := grown_ext (w0 := wf) O1 hgrow (Nat.le_refl _) hE
                have O2 : OwnF V4 wf.heap.size v1 fs := by simpa [OwnF] using hown
                replace E1 : ∀ (j : Nat) (u : Value), ([.int .i64 (IntKind.i64.wrap (z0 + 10)), .int .i64 z1, .int .i64 z2] : List Value)[j]? = some u → V4.cell? ((⟨V0.heap.size, 0, none⟩ : Addr).add j) = some u := fun j u hu => by have h := E1 j u hu; rw [adr] at h ⊢; exact World.grownBy.cell hgrow h (fun e => l01 (by simpa [Value.ownBlock] using e.symm))
                refine hK.out _ _ (ResC.of1 Tb hE') (fun hHeld => ?_)
                clear hK K hown hgrow O1
                (try simp only [Act.put, Ord.a, Ord.b, Ord.c])
                replace hE := hE'
                refine wpAnyH_ready (rs := [13]) (by kernel_rfl) (by simp) ?_
                refine (AllReadyH.cons rfl (fun K hK => ?_) AllReadyH.nil)
                · refine step_append_own rfl (.tmp 60) (.tmp 69) 31 rfl wf.heap.size 53 i0 (Fx 0 0 0) 3 24 Tryz.underlying31 hi hz0' hz1' hz2' rfl (by decide) v1 fs.length (cellsF fs) (by simp [Act.eval, Act.put]) O2 ⟨V0.heap.size, 0, none⟩ 1 1 [.int .i64 (IntKind.i64.wrap (z0 + 10)), .int .i64 z1, .int .i64 z2] (by simp [Act.eval, Act.put]) rfl E1 one_ones (by unfold maxLen; omega) (by omega) hE.size ?_
                  intro v2 V5 hown hgrow
                  have hE' : Ext wf V5 := grown_ext (w0 := wf) O2 hgrow (Nat.le_refl _) hE
                  have O3 := OwnF.snoc hown
                  obtain ⟨a', cap', rfl, hc', _, hg'⟩ := O3.fxs
                  rcases hg' with hg' | ⟨g', rfl, hg', hO'⟩
                  · simp at hg'
                  refine hK.out _ _ (ResC.of1 Tb hE') (fun hHeld => ?_)
                  clear hK K hown hgrow O2 E1
                  (try simp only [Act.put, Ord.a, Ord.b, Ord.c])
                  replace hE := hE'
                  refine Ord.K 14 71 ?_
                  refine wpAnyH_ready (rs := [15]) (by kernel_rfl) (by simp) ?_
                  refine (AllReadyH.cons rfl (fun K hK => ?_) AllReadyH.nil)
                  · have tW := hE.cellOf (Tb 0 _ rfl).1
                    have tfW := hE.thawOf (Tb 0 _ rfl).1 (Tb 0 _ rfl).2
                    go_simp
                    refine hK.out _ _ (ResC.set hHeld 0 _) (fun hHeld => ?_)
                    clear hK K tW tfW
                    (try simp only [Act.put, Ord.a, Ord.b, Ord.c])
                    refine wpAnyH_done (by kernel_rfl) ?_ _
                    go_wp2
                    go_roundw
                    case rel => exact ⟨g', cap', fs.length + 1, by omega, by omega, by simpa using hc', by omega, by omega, (Tb.ext hE).set 0 (by simp) _, ((R4.out.ext hX).ext hE).away (by simp; omega) _, (show IntRow _ g' (fs.length + 1) by simpa using Own.ints hO').chg ((Chg.refl _ _).setCell 0 _) (by omega), Src.setCell (Src.ext (Src.ext S5.out hX) hE) (by simp; omega) _, (C4.out.trans (Chg.of_ext (hX.trans hE))).setNew (by simp; omega) _⟩
                    case measure => rw [lenAt_eq (World.cell?_setCell_same _ _ _ ((Tb.ext hE) 0 _ rfl).1), hlen2]; simp; omega
        · go_simp
          have hE' : Ext wf (V0.alloc (.cells #[.int .i64 (IntKind.i64.wrap (z0 + 10)), .int .i64 z1, .int .i64 z2] 53)) := hE.alloc _
          refine hK.out _ _ (ResC.of1 Tb hE') (fun hHeld => ?_)
          clear hK K
          (try simp only [Act.put, Ord.a, Ord.b, Ord.c])
          have E1 : ∀ (j : Nat) (u : Value), ([.int .i64 (IntKind.i64.wrap (z0 + 10)), .int .i64 z1, .int .i64 z2] : List Value)[j]? = some u → (V0.alloc (.cells #[.int .i64 (IntKind.i64.wrap (z0 + 10)), .int .i64 z1, .int .i64 z2] 53)).cell? ((⟨V0.heap.size, 0, none⟩ : Addr).add j) = some u := one_cells
          have l1 : V0.heap.size < (V0.alloc (.cells #[.int .i64 (IntKind.i64.wrap (z0 + 10)), .int .i64 z1, .int .i64 z2] 53)).heap.size := by simp
          generalize V0.alloc (.cells #[.int .i64 (IntKind.i64.wrap (z0 + 10)), .int .i64 z1, .int .i64 z2] 53) = V1 at *
          replace hE := hE'
          refine wpAnyH_ready (rs := [0, 2]) (by kernel_rfl) (by simp) ?_
          refine (AllReadyH.cons rfl (fun K hK => ?_) (AllReadyH.cons rfl (fun K hK => ?_) AllReadyH.nil))
          · go_simp
            have hE' : Ext wf (V1.alloc (.cells #[] 53)) := hE.alloc _
            refine hK.out _ _ (ResC.of1 Tb hE') (fun hHeld => ?_)
            clear hK K
            (try simp only [Act.put, Ord.a, Ord.b, Ord.c])
            have O1 : OwnF (V1.alloc (.cells #[] 53)) wf.heap.size (.slice (some ⟨V1.heap.size, 0, none⟩) 0 0) [] := World.ownsRow_lit (base := wf.heap.size) (e := 53) (size := 3) V1 #[] 0 hE.size (by unfold maxLen; omega) rfl
            have l0 : V1.heap.size < (V1.alloc (.cells #[] 53)).heap.size := by simp
            replace E1 : ∀ (j : Nat) (u : Value), ([.int .i64 (IntKind.i64.wrap (z0 + 10)), .int .i64 z1, .int .i64 z2] : List Value)[j]? = some u → (V1.alloc (.cells #[] 53)).cell? ((⟨V0.heap.size, 0, none⟩ : Addr).add j) = some u := fun j u hu => ((Ext.refl _).alloc _).cellOf (E1 j u hu)
            have l01 : V1.heap.size ≠ V0.heap.size := by omega
            generalize V1.alloc (.cells #[] 53) = V2 at *
            replace hE := hE'
            refine wpAnyH_ready (rs := [2]) (by kernel_rfl) (by simp) ?_
            refine (AllReadyH.cons rfl (fun K hK => ?_) AllReadyH.nil)
            · have tW := hE.cellOf (Tb 0 _ rfl).1
              go_simp
              refine hK.out _ _ hHeld (fun hHeld => ?_)
              clear hK K tW
              (try simp only [Act.put, Ord.a, Ord.b, Ord.c])
              refine wpAnyH_ready (rs := [3]) (by kernel_rfl) (by simp) ?_
              refine (AllReadyH.cons rfl (fun K hK => ?_) AllReadyH.nil)
              · refine step_append_own rfl (.tmp 57) (.tmp 59) 31 rfl wf.heap.size 53 i0 (Fx 0 0 0) 3 24 Tryz.underlying31 hi hz0' hz1' hz2' rfl (by decide) (.slice (some ⟨V1.heap.size, 0, none⟩) 0 0) 0 [] (by simp [Act.eval, Act.put]) O1 ⟨g, 0, none⟩ fs.length cap (cellsF fs) (by simp [Act.eval, Act.put]) (cellsF_len fs) (fun j u hu => hE.cellOf (hX.cellOf (hOc j u hu))) (cellsF_one fs) (by unfold maxLen; omega) (by omega) hE.size ?_
                intro v1 V4 hown hgrow
                have hE' : Ext wf V4 := grown_ext (w0 := wf) O1 hgrow (Nat.le_refl _) hE
                have O2 : OwnF V4 wf.heap.size v1 fs := by simpa [OwnF] using hown
                replace E1 : ∀ (j : Nat) (u : Value), ([.int .i64 (IntKind.i64.wrap (z0 + 10)), .int .i64 z1, .int .i64 z2] : List Value)[j]? = some u → V4.cell? ((⟨V0.heap.size, 0, none⟩ : Addr).add j) = some u := fun j u hu => by have h := E1 j u hu; rw [adr] at h ⊢; exact World.grownBy.cell hgrow h (fun e => l01 (by simpa [Value.ownBlock] using e.symm))
                refine hK.out _ _ (ResC.of1 Tb hE') (fun hHeld => ?_)
                clear hK K hown hgrow O1
                (try simp only [Act.put, Ord.a, Ord.b, Ord.c])
                replace hE := hE'
                refine wpAnyH_ready (rs := [13]) (by kernel_rfl) (by simp) ?_
                refine (AllReadyH.cons rfl (fun K hK => ?_) AllReadyH.nil)
                · refine step_append_own rfl (.tmp 60) (.tmp 69) 31 rfl wf.heap.size 53 i0 (Fx 0 0 0) 3 24 Tryz.underlying31 hi hz0' hz1' hz2' rfl (by decide) v1 fs.length (cellsF fs) (by simp [Act.eval, Act.put]) O2 ⟨V0.heap.size, 0, none⟩ 1 1 [.int .i64 (IntKind.i64.wrap (z0 + 10)), .int .i64 z1, .int .i64 z2] (by simp [Act.eval, Act.put]) rfl E1 one_ones (by unfold maxLen; omega) (by omega) hE.size ?_
                  intro v2 V5 hown hgrow
                  have hE' : Ext wf V5 := grown_ext (w0 := wf) O2 hgrow (Nat.le_refl _) hE
                  have O3 := OwnF.snoc hown
                  obtain ⟨a', cap', rfl, hc', _, hg'⟩ := O3.fxs
                  rcases hg' with hg' | ⟨g', rfl, hg', hO'⟩
                  · simp at hg'
                  refine hK.out _ _ (ResC.of1 Tb hE') (fun hHeld => ?_)
                  clear hK K hown hgrow O2 E1
                  (try simp only [Act.put, Ord.a, Ord.b, Ord.c])
                  replace hE := hE'
                  refine Ord.K 14 71 ?_
                  refine wpAnyH_ready (rs := [15]) (by kernel_rfl) (by simp) ?_
                  refine (AllReadyH.cons rfl (fun K hK => ?_) AllReadyH.nil)
                  · have tW := hE.cellOf (Tb 0 _ rfl).1
                    have tfW := hE.thawOf (Tb 0 _ rfl).1 (Tb 0 _ rfl).2
                    go_simp
                    refine hK.out _ _ (ResC.set hHeld 0 _) (fun hHeld => ?_)
                    clear hK K tW tfW
                    (try simp only [Act.put, Ord.a, Ord.b, Ord.c])
                    refine wpAnyH_done (by kernel_rfl) ?_ _
                    go_wp2
                    go_roundw
                    case rel => exact ⟨g', cap', fs.length + 1, by omega, by omega, by simpa using hc', by omega, by omega, (Tb.ext hE).set 0 (by simp) _, ((R4.out.ext hX).ext hE).away (by simp; omega) _, (show IntRow _ g' (fs.length + 1) by simpa using Own.ints hO').chg ((Chg.refl _ _).setCell 0 _) (by omega), Src.setCell (Src.ext (Src.ext S5.out hX) hE) (by simp; omega) _, (C4.out.trans (Chg.of_ext (hX.trans hE))).setNew (by simp; omega) _⟩
                    case measure => rw [lenAt_eq (World.cell?_setCell_same _ _ _ ((Tb.ext hE) 0 _ rfl).1), hlen2]; simp; omega
          · have tW := hE.cellOf (Tb 0 _ rfl).1
            go_simp
            refine hK.out _ _ hHeld (fun hHeld => ?_)
            clear hK K tW
            (try simp only [Act.put, Ord.a, Ord.b, Ord.c])
            refine wpAnyH_ready (rs := [0]) (by kernel_rfl) (by simp) ?_
            refine (AllReadyH.cons rfl (fun K hK => ?_) AllReadyH.nil)
            · go_simp
              have hE' : Ext wf (V1.alloc (.cells #[] 53)) := hE.alloc _
              refine hK.out _ _ (ResC.of1 Tb hE') (fun hHeld => ?_)
              clear hK K
              (try simp only [Act.put, Ord.a, Ord.b, Ord.c])
              have O1 : OwnF (V1.alloc (.cells #[] 53)) wf.heap.size (.slice (some ⟨V1.heap.size, 0, none⟩) 0 0) [] := World.ownsRow_lit (base := wf.heap.size) (e := 53) (size := 3) V1 #[] 0 hE.size (by unfold maxLen; omega) rfl
              have l0 : V1.heap.size < (V1.alloc (.cells #[] 53)).heap.size := by simp
              replace E1 : ∀ (j : Nat) (u : Value), ([.int .i64 (IntKind.i64.wrap (z0 + 10)), .int .i64 z1, .int .i64 z2] : List Value)[j]? = some u → (V1.alloc (.cells #[] 53)).cell? ((⟨V0.heap.size, 0, none⟩ : Addr).add j) = some u := fun j u hu => ((Ext.refl _).alloc _).cellOf (E1 j u hu)
              have l01 : V1.heap.size ≠ V0.heap.size := by omega
              generalize V1.alloc (.cells #[] 53) = V3 at *
              replace hE := hE'
              refine wpAnyH_ready (rs := [3]) (by kernel_rfl) (by simp) ?_
              refine (AllReadyH.cons rfl (fun K hK => ?_) AllReadyH.nil)
              · refine step_append_own rfl (.tmp 57) (.tmp 59) 31 rfl wf.heap.size 53 i0 (Fx 0 0 0) 3 24 Tryz.underlying31 hi hz0' hz1' hz2' rfl (by decide) (.slice (some ⟨V1.heap.size, 0, none⟩) 0 0) 0 [] (by simp [Act.eval, Act.put]) O1 ⟨g, 0, none⟩ fs.length cap (cellsF fs) (by simp [Act.eval, Act.put]) (cellsF_len fs) (fun j u hu => hE.cellOf (hX.cellOf (hOc j u hu))) (cellsF_one fs) (by unfold maxLen; omega) (by omega) hE.size ?_
                intro v1 V4 hown hgrow
                have hE' : Ext wf V4 := grown_ext (w0 := wf) O1 hgrow (Nat.le_refl _) hE
                have O2 : OwnF V4 wf.heap.size v1 fs := by simpa [OwnF] using hown
                replace E1 : ∀ (j : Nat) (u : Value), ([.int .i64 (IntKind.i64.wrap (z0 + 10)), .int .i64 z1, .int .i64 z2] : List Value)[j]? = some u → V4.cell? ((⟨V0.heap.size, 0, none⟩ : Addr).add j) = some u := fun j u hu => by have h := E1 j u hu; rw [adr] at h ⊢; exact World.grownBy.cell hgrow h (fun e => l01 (by simpa [Value.ownBlock] using e.symm))
                refine hK.out _ _ (ResC.of1 Tb hE') (fun hHeld => ?_)
                clear hK K hown hgrow O1
                (try simp only [Act.put, Ord.a, Ord.b, Ord.c])
                replace hE := hE'
                refine wpAnyH_ready (rs := [13]) (by kernel_rfl) (by simp) ?_
                refine (AllReadyH.cons rfl (fun K hK => ?_) AllReadyH.nil)
                · refine step_append_own rfl (.tmp 60) (.tmp 69) 31 rfl wf.heap.size 53 i0 (Fx 0 0 0) 3 24 Tryz.underlying31 hi hz0' hz1' hz2' rfl (by decide) v1 fs.length (cellsF fs) (by simp [Act.eval, Act.put]) O2 ⟨V0.heap.size, 0, none⟩ 1 1 [.int .i64 (IntKind.i64.wrap (z0 + 10)), .int .i64 z1, .int .i64 z2] (by simp [Act.eval, Act.put]) rfl E1 one_ones (by unfold maxLen; omega) (by omega) hE.size ?_
                  intro v2 V5 hown hgrow
                  have hE' : Ext wf V5 := grown_ext (w0 := wf) O2 hgrow (Nat.le_refl _) hE
                  have O3 := OwnF.snoc hown
                  obtain ⟨a', cap', rfl, hc', _, hg'⟩ := O3.fxs
                  rcases hg' with hg' | ⟨g', rfl, hg', hO'⟩
                  · simp at hg'
                  refine hK.out _ _ (ResC.of1 Tb hE') (fun hHeld => ?_)
                  clear hK K hown hgrow O2 E1
                  (try simp only [Act.put, Ord.a, Ord.b, Ord.c])
                  replace hE := hE'
                  refine Ord.K 14 71 ?_
                  refine wpAnyH_ready (rs := [15]) (by kernel_rfl) (by simp) ?_
                  refine (AllReadyH.cons rfl (fun K hK => ?_) AllReadyH.nil)
                  · have tW := hE.cellOf (Tb 0 _ rfl).1
                    have tfW := hE.thawOf (Tb 0 _ rfl).1 (Tb 0 _ rfl).2
                    go_simp
                    refine hK.out _ _ (ResC.set hHeld 0 _) (fun hHeld => ?_)
                    clear hK K tW tfW
                    (try simp only [Act.put, Ord.a, Ord.b, Ord.c])
                    refine wpAnyH_done (by kernel_rfl) ?_ _
                    go_wp2
                    go_roundw
                    case rel => exact ⟨g', cap', fs.length + 1, by omega, by omega, by simpa using hc', by omega, by omega, (Tb.ext hE).set 0 (by simp) _, ((R4.out.ext hX).ext hE).away (by simp; omega) _, (show IntRow _ g' (fs.length + 1) by simpa using Own.ints hO').chg ((Chg.refl _ _).setCell 0 _) (by omega), Src.setCell (Src.ext (Src.ext S5.out hX) hE) (by simp; omega) _, (C4.out.trans (Chg.of_ext (hX.trans hE))).setNew (by simp; omega) _⟩
                    case measure => rw [lenAt_eq (World.cell?_setCell_same _ _ _ ((Tb.ext hE) 0 _ rfl).1), hlen2]; simp; omega
        --END
      · go_wp2
        exact anyT_done rr0 hB (by omega) h41 hcap hg I4.out S5.out C4.out rfl
  · obtain ⟨⟨z, d0⟩, f0⟩ := I3.out ((n - 1) * 3) (by omega)
    have i0 : (0 : Int) ≤ (n : Int) - 1 := by omega
    have i1 : (n : Int) - 1 < (n : Int) := by omega
    have X0 : IntKind.i64.wrap ((n : Int) - 1) = (n : Int) - 1 := IntWalk.i64_in _ (by omega)
    have X1 : ((n : Int) - 1).toNat = n - 1 := by omega
    have X2 : (1 : Int) ≤ (n : Int) := by omega
    go_wp2
    exact anyT_done (F := w3.setCell ⟨g, (n - 1) * 3, none⟩ (.int .i64 1000000000)) (by rw [oth _ _ _ _ (by simp; omega)]; exact rr0) hB (by omega) (by omega) hcap (by omega) (I3.out.set _ _) (S3.out.setCell (by simp; omega) _) (C3.out.setNew (by simp; omega) _) rfl
  · have e0' : (q == 0) = false := beq_eq_false_iff_ne.2 e0
    have e1' : (q == 1) = false := beq_eq_false_iff_ne.2 e1
    have e2' : (q == 2) = false := beq_eq_false_iff_ne.2 e2
    have e3' : (q == 3) = false := beq_eq_false_iff_ne.2 e3
    have e4' : (q == 4) = false := beq_eq_false_iff_ne.2 e4
    go_wp2
    exact anyT_done rr0 hB (by omega) (by omega) hcap (by omega) I3.out S3.out C3.out rfl
end Go.Proofs.YtmlojndkpnhalaaGreat.Trk
