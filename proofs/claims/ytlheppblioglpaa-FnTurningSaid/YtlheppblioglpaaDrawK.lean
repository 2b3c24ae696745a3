/- Contracts of the draws of tracks. -/
import Derived.Test.YtlheppblioglpaaRow
import Derived.Test.YtlheppblioglpaaDraw3
import Derived.Test.YtlheppblioglpaaOrd
import Derived.OwnWalk
import Derived.Laws.OwnMore
import Derived.IntWalk
namespace Go.Proofs.Ytlheppblioglpaa.Trk
open Go.ChangeShapes Go.WideShapes Go.ChangeAt Go.RowKit
open Go.Proofs.Ytlheppblioglpaa.Num Go.Proofs.Ytlheppblioglpaa.Kit Go.Proofs.Ytlheppblioglpaa.Pts Go.Proofs.Ytlheppblioglpaa.Draw
set_option linter.unusedVariables false
set_option linter.unusedSimpArgs false

/-- A track that a draw made. -/
def ATr (B : Nat) (w : World) (e : Ending) (w' : World) : Prop :=
  ∃ (v : Value) (fs : List F3), e = .returned (Tr v) ∧ 2 ≤ fs.length ∧ fs.length ≤ 8 ∧ OwnF w' w.heap.size v fs ∧ Src w' B ∧ Chg B w w'

/-- What the loop of l03DrawFrom keeps: the row so far, the point in its box P. -/
def RelG (w : World) (B P m0 : Nat) (t0 : Int) (t o n : Value) (wr : World) : Prop :=
  ∃ (fs : List F3) (k : Nat) (x y : Int), n = .int .i64 k ∧ fs.length + k = m0 ∧ (∃ z : Int, t = .int .i64 z ∧ t0 ≤ z ∧ z ≤ t0 + 2001 * fs.length) ∧ OwnF wr (P + 1) o fs ∧
    Box wr P [.int .i64 x, .int .i64 y] ∧ (-1000001 ≤ x ∧ x ≤ 1000001) ∧ (-1000001 ≤ y ∧ y ≤ 1000001) ∧ Box wr w.heap.size [.slice none 0 0] ∧ Src wr B ∧ Chg B w wr

set_option maxHeartbeats 2000000 in
def clampE (q : Int) : Int := if (if -1000000 < q then q else -1000000) < 1000000 then (if -1000000 < q then q else -1000000) else 1000000
theorem clamp_bd (q : Int) : -1000000 ≤ clampE q ∧ clampE q ≤ 1000000 := by
  unfold clampE
  by_cases h : -1000000 < q
  · rw [if_pos h]
    by_cases g : q < 1000000
    · rw [if_pos g]; omega
    · rw [if_neg g]; omega
  · rw [if_neg h, if_pos (by decide)]; omega

theorem Src.grown {w w' : World} {B : Nat} {row : Option Nat} (h : Src w B) (hg : w.grownBy w' row) (hr : ∀ k, row = some k → B < k) : Src w' B := by
  obtain ⟨a, len, cap, at_, seed, S, a0, a1, hl, h1, h2, hc⟩ := h
  have hB := World.block_lt_of_cell? w _ S.c0
  have e : ∀ k, k ≤ B → w'.heap[k]? = w.heap[k]? := fun k hk => hg.block k (Nat.lt_of_le_of_lt hk hB) (fun e => by have := hr k e.symm; omega)
  have ec : ∀ o, w'.cell? ⟨B, o, none⟩ = w.cell? ⟨B, o, none⟩ := fun o => World.cell?_of_block (w := w) (e B (Nat.le_refl _))
  have ef : ∀ o, w'.frozen? ⟨B, o, none⟩ = w.frozen? ⟨B, o, none⟩ := fun o => World.frozen?_of_block (w := w) (e B (Nat.le_refl _))
  refine ⟨a, len, cap, at_, seed, ⟨(ec 0).trans S.c0, (ec 1).trans S.c1, (ec 2).trans S.c2, (ef 1).trans S.f1, (ef 2).trans S.f2⟩, a0, a1, hl, h1, h2, ?_⟩
  rcases hc with hc | ⟨b, off, ha, hb, hc⟩
  · exact .inl hc
  · exact .inr ⟨b, off, ha, hb, fun i hi => by
      obtain ⟨z, z0, z1, hz⟩ := hc i hi
      exact ⟨z, z0, z1, (World.cell?_of_block (w := w) (a := ⟨b, off + i, none⟩) (e b (by omega))).trans hz⟩⟩

set_option maxRecDepth 100000 in
set_option maxHeartbeats 2000000 in
theorem drawFrom_any (B : Nat) (t0 : Int) (w : World) (hs : Src w B) (h0 : 0 ≤ t0) (h1 : t0 ≤ 1000000) : Calls Try.prog 120 #[.pointer (some ⟨B, 0, none⟩), .int .i64 t0] w (ATr B w) := by
  have hB := hs.lt
  have hn0 : w.heap.size ≠ B := by omega
  go_enter Try.func120, Try.ntmps120
  go_wp2_with fail
  refine (drawPoint_any _ _ (hs.alloc _)).mono ?_
  rintro e w1 ⟨x, y, rfl, hx, hy, hs1, hc1⟩
  have R := ((Box.new (w := w) (vs := [.slice none 0 0]) (t := 46) rfl).chg hc1 hn0)
  have z1 := hc1.size
  simp at z1
  go_wp2_with fail
  refine (next_pos _ _ _ (by repeat (first | with_reducible assumption | with_reducible apply Src.alloc | with_reducible apply Src.drew | with_reducible apply Src.drewN)) (by omega)).mono ?_
  rintro e w2 ⟨r, rfl, r0, r1, hs2, hc2⟩
  obtain ⟨v, hv, hor⟩ := pick3 hc2 (by repeat (first | with_reducible assumption | with_reducible apply Src.alloc | with_reducible apply Src.drew | with_reducible apply Src.drewN)) r0 r1
  simp at hv
  have hv2 : 1 < v ∧ v ≤ 301 := by omega
  have nP : w1.heap.size ≠ B := by have := hs1.lt; omega
  have P2 := (((Box.new2 (w := w1) (n := w1.heap.size) (x := .int .i64 x) (y := .int .i64 y) (t := 37) rfl).alloc (.cells #[] 55)).alloc (.cells #[.int .i64 9, .int .i64 61, .int .i64 301] 2)).chg hc2 nP
  have R2 := (((R.alloc (.cells #[.int .i64 x, .int .i64 y] 37)).alloc (.cells #[] 55)).alloc (.cells #[.int .i64 9, .int .i64 61, .int .i64 301] 2)).chg hc2 hn0
  have O0 : OwnF ((w1.alloc (.cells #[.int .i64 x, .int .i64 y] 37)).alloc (.cells #[] 55)) (w1.heap.size + 1) (.slice (some ⟨w1.heap.size + 1, 0, none⟩) 0 0) [] := by
    have := World.ownsRow_lit (base := w1.heap.size + 1) (e := 55) (size := 3) (w1.alloc (.cells #[.int .i64 x, .int .i64 y] 37)) #[] 0 (by simp) (by unfold maxLen; omega) (by simp)
    simpa [OwnF, cellsF] using this
  have O2 := OwnF.chg (O0.ext ((Ext.refl _).alloc (.cells #[.int .i64 9, .int .i64 61, .int .i64 301] 2))) hc2 (by simp [Value.ownBlock]; have := hs1.lt; omega)
  have C2 : Chg B w w2 := ((((Chg.refl B w).alloc _).trans hc1).alloc _ |>.alloc _ |>.alloc _).trans hc2
  have z2 := hc2.size
  simp at z2
  clear hc2 hs1 R O0
  go_wp2_with fail
  refine (next_pos _ _ _ hs2 (by omega)).mono ?_
  rintro e w3 ⟨q, rfl, q0, q1, hs3, hc3⟩
  obtain ⟨m, rfl⟩ := Int.eq_ofNat_of_zero_le q0
  have P3 := Lib.hid (P2.chg hc3 nP)
  have R3 := Lib.hid (R2.chg hc3 hn0)
  have O3 := Lib.hid (O2.chg hc3 (by simp [Value.ownBlock]; omega))
  have C3 := Lib.hid (C2.trans hc3)
  have S3 := Lib.hid hs3
  have z3 := hc3.size
  have T0 : IntKind.i64.wrap (2 + (m : Int)) = 2 + (m : Int) := IntWalk.i64_in _ (by omega)
  clear hc3 hs3 hs2 P2 R2 O2 C2 hc1 hs hv
  go_wp2
  go_loopw [1, 6, 8] (fun t o n wr => RelG w B w1.heap.size (m + 2) t0 t o n wr) (fun t o n _ => (intOf n).toNat)
  case atStart => exact ⟨[], m + 2, x, y, by go_num, by simp, ⟨t0, rfl, by omega, by simp⟩, O3.out, P3.out, hx, hy, R3.out, S3.out, C3.out⟩
  case round =>
    obtain ⟨fs, k, x, y, rfl, hm, ⟨z, rfl, hz0, hz1⟩, O, P, hx, hy, R, hs, hc⟩ := hrel
    have HO := Lib.hid O
    have HC := Lib.hid hc
    have HS := Lib.hid hs
    have HR := Lib.hid R
    have HP := Lib.hid P
    obtain ⟨⟨c0, c1⟩, f0, f1⟩ := P.two
    clear O hc hs R P
    by_cases hk : 0 < k
    · obtain ⟨i0, hi, hz0', hz1', hz2'⟩ := info_parts fixInfo
      go_wp2_with (at_builtin; refine wpList_append_own _ rfl _ _ 44 rfl (w1.heap.size + 1) 55 i0 (Fx 0 0 0) 3 24 Try.underlying44 hi hz0' hz1' hz2' rfl (by decide) _ fs.length _ rfl (World.ownsRow.alloc HO.out _) ⟨wr.heap.size, 0, none⟩ 1 1 [.int .i64 z, .int .i64 x, .int .i64 y] rfl rfl one_cells one_ones (by unfold maxLen; omega) (by omega) (by have := HP.out.lt; simp; omega) ?_; intro v' w4 hown hgrow hnil)
      have OA := HO.out.ext ((Ext.refl wr).alloc (.cells #[.int .i64 z, .int .i64 x, .int .i64 y] 55))
      have O4 := OwnF.snoc hown
      have S4 := Src.grown (HS.out.alloc (.cells #[.int .i64 z, .int .i64 x, .int .i64 y] 55)) hgrow (fun k hk => by have := (World.ownsRow.lt HO.out k hk).1; omega)
      have P4 := grown_box OA hgrow (HO.out.block (by omega)) (HP.out.alloc _)
      have R4 := grown_box OA hgrow (HO.out.block (by omega)) (HR.out.alloc _)
      have C4 := grown_chg (w0 := w) (B := B) OA hgrow (by omega) (HC.out.alloc _)
      clear hown hgrow hnil OA HO HC HS HR HP c0 c1 f0 f1
      refine (next_pos _ _ _ S4 (by omega)).mono ?_
      rintro e w5 ⟨r5, rfl, r50, r51, S5, c5⟩
      have P5 := P4.chg c5 nP
      have R5 := R4.chg c5 hn0
      have O5 := Lib.hid (O4.chg c5 (O4.block (by omega)))
      have C5 := C4.trans c5
      have z5 := c5.size
      have T5 : IntKind.i64.wrap (1 + r5) = 1 + r5 := IntWalk.i64_in _ (by omega)
      have T6 : IntKind.i64.wrap (z + (1 + r5)) = z + (1 + r5) := IntWalk.i64_in _ (by omega)
      have T7 : IntKind.i64.wrap ((k : Int) - 1) = (k : Int) - 1 := IntWalk.i64_in _ (by omega)
      clear S4 P4 R4 O4 C4 c5
      obtain ⟨⟨c0, c1⟩, f0, f1⟩ := P5.two
      go_wp2_with fail
      have D5 : ∀ r, 0 ≤ r → r < v → IntKind.i64.wrap (x + r) = x + r ∧ IntKind.i64.wrap (x + r - v / 2) = x + r - v / 2 := fun r h1 h2 => ⟨IntWalk.i64_in _ (by omega), IntWalk.i64_in _ (by omega)⟩
      go_region_law (first | (go_simp; go_at_call 39; refine (next_pos _ _ _ (by repeat (first | with_reducible assumption | with_reducible apply Src.alloc | with_reducible apply Src.drew | with_reducible apply Src.drewN)) (by omega)).mono ?_; rintro e w6 ⟨r6, rfl, r60, r61, S6, c6⟩; replace P5 := P5.drew.chg c6 nP; replace R5 := R5.drew.chg c6 hn0; replace O5 := Lib.hid ((O5.out.ext (Ext.refl _).drew).chg c6 (O5.out.block (by omega))); replace C5 := C5.drew.trans c6; replace c0 := P5.two.1.1; replace c1 := P5.two.1.2; replace f0 := P5.two.2.1; replace f1 := P5.two.2.2; obtain ⟨D6, D7⟩ := D5 r6 r60 r61))
      all_goals
        generalize IntKind.i64.wrap (x + r6 - IntKind.i64.wrap (v.tdiv 2)) = q at *
        have hm5 : -1000000 ≤ (if -1000000 < q then q else -1000000) := by split <;> omega
        generalize (if -1000000 < q then q else -1000000) = x5 at hm5 ⊢
        have hq : -1000000 ≤ (if x5 < 1000000 then x5 else 1000000) ∧ (if x5 < 1000000 then x5 else 1000000) ≤ 1000000 := by split <;> omega
        generalize (if x5 < 1000000 then x5 else 1000000) = x6 at hq ⊢
        clear hm5
        obtain ⟨w7, hw7⟩ : ∃ w7, w7 = w6.setCell ⟨w1.heap.size, 0, none⟩ (.int .i64 x6) := ⟨_, rfl⟩
        rw [← hw7]
        have P7 : Box w7 w1.heap.size [.int .i64 x6, .int .i64 y] := hw7 ▸ P5.set 0 (by simp) (.int .i64 x6)
        have R7 : Box w7 w.heap.size [.slice none 0 0] := hw7 ▸ R5.away (by simp; omega) _
        have O7 := Lib.hid (show OwnF w7 (w1.heap.size + 1) v' (fs ++ [⟨z, x, y⟩]) from hw7 ▸ O5.out.chg ((Chg.refl _ _).setCell 0 _) (O5.out.block (by omega)))
        have S7 : Src w7 B := hw7 ▸ S6.setCell (by simp; omega) _
        have C7 : Chg B w w7 := hw7 ▸ C5.setNew (by simp; omega) _
        clear hw7 P5 R5 O5 S6 C5 c0 c1 f0 f1 D5 D6 D7 T5 T6 c6
        obtain ⟨⟨c0, c1⟩, f0, f1⟩ := P7.two
        go_wp2_with fail
        have D8 : ∀ r, 0 ≤ r → r < v → IntKind.i64.wrap (y + r) = y + r := fun r h1 h2 => IntWalk.i64_in _ (by omega)
        go_region_law (first | (go_simp; go_at_call 39; refine (next_pos _ _ _ (by repeat (first | with_reducible assumption | with_reducible apply Src.alloc | with_reducible apply Src.drew | with_reducible apply Src.drewN)) (by omega)).mono ?_; rintro e w8 ⟨r8, rfl, r80, r81, S8, c8⟩; replace P7 := P7.drew.chg c8 nP; replace R7 := R7.drew.chg c8 hn0; replace O7 := Lib.hid ((O7.out.ext (Ext.refl _).drew).chg c8 (O7.out.block (by omega))); replace C7 := C7.drew.trans c8; replace c0 := P7.two.1.1; replace c1 := P7.two.1.2; replace f0 := P7.two.2.1; replace f1 := P7.two.2.2; have D9 := D8 r8 r80 r81))
        all_goals
          generalize IntKind.i64.wrap (y + r8 - IntKind.i64.wrap (v.tdiv 2)) = q8 at *
          have hm5 : -1000000 ≤ (if -1000000 < q8 then q8 else -1000000) := by split <;> omega
          generalize (if -1000000 < q8 then q8 else -1000000) = y5 at hm5 ⊢
          have hq8 : -1000000 ≤ (if y5 < 1000000 then y5 else 1000000) ∧ (if y5 < 1000000 then y5 else 1000000) ≤ 1000000 := by split <;> omega
          generalize (if y5 < 1000000 then y5 else 1000000) = y8 at hq8 ⊢
          clear hm5
          obtain ⟨w9, hw9⟩ : ∃ w9, w9 = w8.setCell ⟨w1.heap.size, 1, none⟩ (.int .i64 y8) := ⟨_, rfl⟩
          rw [← hw9]
          have P9 : Box w9 w1.heap.size [.int .i64 x6, .int .i64 y8] := hw9 ▸ P7.set 1 (by simp) (.int .i64 y8)
          have R9 : Box w9 w.heap.size [.slice none 0 0] := hw9 ▸ R7.away (by simp; omega) _
          have O9 := Lib.hid (show OwnF w9 (w1.heap.size + 1) v' (fs ++ [⟨z, x, y⟩]) from hw9 ▸ O7.out.chg ((Chg.refl _ _).setCell 1 _) (O7.out.block (by omega)))
          have S9 : Src w9 B := hw9 ▸ S8.setCell (by simp; omega) _
          have C9 : Chg B w w9 := hw9 ▸ C7.setNew (by simp; omega) _
          clear hw9 P7 R7 O7 S8 C7 c0 c1 f0 f1 D8 D9 c8
          go_wp2
          go_roundw
          case rel => exact ⟨fs ++ [⟨z, x, y⟩], k - 1, x6, y8, by go_num, by simp; omega, ⟨z + (1 + r5), rfl, by omega, by simp; omega⟩, O9.out, P9, by omega, by omega, R9, S9, C9⟩
          case measure => simp [intOf]; omega
    · obtain rfl : k = 0 := by omega
      obtain ⟨a, cap, rfl, hcap, hF, _⟩ := HO.out.fxs
      obtain ⟨r0, rf⟩ := HR.out 0 _ rfl
      go_wp2
      have g0 : (wr.setCell ⟨w.heap.size, 0, none⟩ (.slice a fs.length cap)).cell? ⟨w.heap.size, 0, none⟩ = some (.slice a fs.length cap) := World.cell?_setCell_same _ _ _ r0
      exact bodyPost_ret (v := Tr (.slice a fs.length cap)) (by simp [results, Try.results120, go_sem, g0]) rfl
        ⟨_, fs, rfl, by omega, by omega, (HO.out.chg ((Chg.refl _ _).setCell 0 _) (HO.out.block (by omega))).mono (by omega), HS.out.setCell hB _, HC.out.setNew (Nat.le_refl _) _⟩

end Go.Proofs.Ytlheppblioglpaa.Trk
