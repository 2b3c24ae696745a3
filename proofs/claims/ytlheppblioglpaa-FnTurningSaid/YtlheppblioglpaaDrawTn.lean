/- The draws of chapter 10 with a track: l10DrawSpan, DrawTurningAt. -/
import Derived.Test.YtlheppblioglpaaDrawWd
import Derived.Test.YtlheppblioglpaaDrawQ
import Derived.Test.YtlheppblioglpaaBxs
namespace Go.Proofs.Ytlheppblioglpaa.Draw
open Go.ChangeShapes Go.WideShapes Go.ChangeAt Go.RowKit
open Go.Proofs.Ytlheppblioglpaa.Num Go.Proofs.Ytlheppblioglpaa.Kit Go.Proofs.Ytlheppblioglpaa.Pts
open Go.Proofs.Ytlheppblioglpaa.Trk (F3 Tr AnyT IntRow drawAnyT_any drawTime_any)
set_option linter.unusedVariables false
set_option linter.unusedSimpArgs false

theorem tabSp {r : Int} (r0 : 0 ≤ r) (r1 : r < 3) : ∃ v : Int, (#[Value.int .i64 (-1), Value.int .i64 60000, Value.int .i64 60001] : Array Value)[r.toNat]? = some (.int .i64 v) := by
  rcases (show r = 0 ∨ r = 1 ∨ r = 2 by omega) with rfl | rfl | rfl
  · exact ⟨-1, rfl⟩
  · exact ⟨60000, rfl⟩
  · exact ⟨60001, rfl⟩
/-- A number comes out. -/
def ANu (B : Nat) (w : World) (e : Ending) (w' : World) : Prop := ∃ r : Int, e = .returned (.int .i64 r) ∧ Src w' B ∧ Chg B w w'
set_option maxHeartbeats 1000000 in
theorem drawSpan_any (B : Nat) (w : World) (hs : Src w B) : Calls Try.prog 53 #[.pointer (some ⟨B, 0, none⟩)] w (ANu B w) := by
  have hB := hs.lt
  go_enter Try.func53, Try.ntmps53
  go_wp2_with fail
  refine (next_pos B _ _ hs (by omega)).mono ?_
  rintro e w1 ⟨r1, rfl, r10, r11, hs1, hc1⟩
  clear hs
  by_cases h0 : r1 = 0
  · have t0 : (r1 == 0) = true := beq_iff_eq.2 h0
    clear h0
    go_wp2_with fail
    refine (next_pos B _ _ (hs1.alloc _) (by omega)).mono ?_
    rintro e w2 ⟨r2, rfl, r20, r21, hs2, hc2⟩
    have hb1 := hs1.lt
    obtain ⟨v, hv⟩ := tabSp r20 r21
    have hcell : w2.cell? ⟨w1.heap.size, r2.toNat, none⟩ = some (.int .i64 v) := hc2.cellOf (by simp; omega) (boxed _ hv rfl)
    have C := (hc1.alloc (.cells #[.int .i64 (-1), .int .i64 60000, .int .i64 60001] 2)).trans hc2
    clear hc1 hc2 hs1
    go_wp2
    go_ret
    exact ⟨v, rfl, hs2, C⟩
  · have t0 : (r1 == 0) = false := beq_eq_false_iff_ne.2 h0
    go_wp2_with fail
    refine (next_pos B _ _ hs1 (by omega)).mono ?_
    rintro e w2 ⟨r2, rfl, r20, r21, hs2, hc2⟩
    go_wp2
    go_ret
    exact ⟨r2, rfl, hs2, hc1.trans hc2⟩

/-- The boxes of two results (a wind, a track) and of a track that was drawn. -/
def TS (w : World) (B n k : Nat) (tv : Value) (z : World) : Prop := ∃ x0 x1 y0, BX w B [(n, [x0, x1]), (n + 1, [y0]), (k, [tv])] z
theorem TS.mk {w : World} {B n k : Nat} {tv : Value} {z : World} {x0 x1 y0 : Value} (h : BX w B [(n, [x0, x1]), (n + 1, [y0]), (k, [tv])] z) : TS w B n k tv z := ⟨_, _, _, h⟩
theorem TS.cell {w : World} {B n k : Nat} {tv : Value} {z : World} (h : TS w B n k tv z) : z.cell? ⟨k, 0, none⟩ = some tv := by
  obtain ⟨_, _, _, h⟩ := h
  exact h.cell 2 0 rfl rfl

/-- A wind, a track, a time and a span come out. -/
def WtTn (w : World) (e : Ending) (w' : World) : Prop := ∃ (x y : Int) (g cap n : Nat) (t s : Int), e = .returned (.tuple #[Pt x y, Tr (.slice (some ⟨g, 0, none⟩) n cap), .int .i64 t, .int .i64 s]) ∧ 1 ≤ n ∧ n ≤ 41 ∧ n ≤ cap ∧ IntRow w' g n ∧ Ext w w'
set_option maxRecDepth 100000 in
set_option maxHeartbeats 4000000 in
theorem drawTurningAt_any (a : Option Addr) (len cap : Nat) (w : World) (hb : Bytes w a len) (hl : len ≤ 100000) : Calls Try.prog 16 #[.slice a len cap] w (WtTn w) := by
  have HB := Lib.hid hb
  clear hb
  obtain ⟨W0, hW0⟩ : ∃ W0, W0 = (w.alloc (.cells #[.int .i64 0, .int .i64 0] 25)).alloc (.cells #[.slice none 0 0] 46) := ⟨_, rfl⟩
  have hX : Ext w W0 := hW0 ▸ ((Ext.refl w).alloc _).alloc _
  have Y0 : ∀ B, w.heap.size + 1 < B → BX w B [(w.heap.size, [.int .i64 0, .int .i64 0]), (w.heap.size + 1, [.slice none 0 0])] W0 := fun B hB => hW0 ▸ ((BX.nil w B).add [.int .i64 0, .int .i64 0] 25 rfl (by omega)).add [.slice none 0 0] 46 (by simp) (by omega)
  have zW : W0.heap.size = w.heap.size + 1 + 1 := by rw [hW0]; simp
  go_enter Try.func16, Try.ntmps16
  go_wp2_with fail
  rw [← hW0]
  clear hW0
  refine (from_any a len cap _ (HB.out.ext hX) hl).mono ?_
  rintro e w1 ⟨B, rfl, hB, hs1, hy⟩
  have X1 := (Y0 B (by omega)).ext hy
  have z1 := Ext.size hy
  clear hy hX Y0
  have hB1 := hs1.lt
  go_wp2_with fail
  refine (drawAnyT_any B _ hs1).mono ?_
  rintro e w2 ⟨g, tc, n, rfl, H1, H41, HC, hg, hI, hs2, hc⟩
  have X2 := X1.step hc
  have z2 := hc.size
  clear hc hs1 X1
  have hgl : g < w2.heap.size := World.block_lt_of_cell? w2 _ (hI 0 (by omega)).1.choose_spec
  have hB2 := hs2.lt
  obtain ⟨W3, hW3⟩ : ∃ W3, W3 = w2.alloc (.cells #[.slice (some ⟨g, 0, none⟩) n tc] 46) := ⟨_, rfl⟩
  have X3 : BX w B [(w.heap.size, [.int .i64 0, .int .i64 0]), (w.heap.size + 1, [.slice none 0 0]), (w2.heap.size, [.slice (some ⟨g, 0, none⟩) n tc])] W3 := hW3 ▸ X2.add [.slice (some ⟨g, 0, none⟩) n tc] 46 rfl (by omega)
  have hs3 : Src W3 B := hW3 ▸ hs2.alloc _
  have hI3 : IntRow W3 g n := hW3 ▸ hI.ext ((Ext.refl _).alloc _)
  clear hs2 X2 hI
  go_upto_region 3 with fail
  rw [← hW3]
  clear hW3
  generalize hk : w2.heap.size = k at *
  clear hk
  have XD := X3.drew
  have hsD := hs3.drew
  have hID := hI3.ext (Ext.refl _).drew
  clear X3 hs3 hI3
  have f0 : ∀ z, TS w B w.heap.size k (.slice (some ⟨g, 0, none⟩) n tc) z → z.cell? ⟨k, 0, none⟩ = some (.slice (some ⟨g, 0, none⟩) n tc) := fun z h => h.cell
  refine wp_region_held_drew (S := TS w B w.heap.size k (.slice (some ⟨g, 0, none⟩) n tc)) (by kernel_rfl) (by (try dsimp only); exact TS.mk XD) (fun hHeld => ?_)
  generalize W3.drew = wd at *
  refine Ord.K 0 12 ?_; refine Ord.K 2 14 ?_; refine Ord.K 3 15 ?_; refine Ord.K 4 16 ?_; refine Ord.K 6 18 ?_
  clear f0
  refine wpAnyH_ready (rs := [1]) (by kernel_rfl) (by simp) ?_
  refine AllReadyH.cons rfl (fun K hK => ?_) AllReadyH.nil
  go_simp
  go_at_call 38
  refine (drawWindAny_any B _ hsD).mono ?_
  rintro e w4 ⟨x, y, rfl, hs4, hc⟩
  go_wp2_with fail
  replace XD := XD.step hc
  have hI4 := hID.chg hc (by omega)
  clear hID hsD hc
  refine hK.out _ _ (TS.mk XD) (fun hHeld => ?_)
  clear hK K
  (try simp only [Act.put, Ord.a, Ord.b, Ord.c])
  refine wpAnyH_ready (rs := [5]) (by kernel_rfl) (by simp) ?_
  refine AllReadyH.cons rfl (fun K hK => ?_) AllReadyH.nil
  go_simp
  go_at_call 52
  refine (drawTime_any B g tc n _ hs4 hI4 (by omega) H1 H41 HC).mono ?_
  rintro e w5 ⟨t, rfl, hs5, hc⟩
  go_wp2_with fail
  replace XD := XD.step hc
  have hI5 := hI4.chg hc (by omega)
  clear hI4 hs4 hc
  refine hK.out _ _ (TS.mk XD) (fun hHeld => ?_)
  clear hK K
  (try simp only [Act.put, Ord.a, Ord.b, Ord.c])
  refine wpAnyH_ready (rs := [7]) (by kernel_rfl) (by simp) ?_
  refine AllReadyH.cons rfl (fun K hK => ?_) AllReadyH.nil
  go_simp
  go_at_call 53
  refine (drawSpan_any B _ hs5).mono ?_
  rintro e w6 ⟨s, rfl, hs6, hc⟩
  go_wp2_with fail
  replace XD := XD.step hc
  have hI6 := hI5.chg hc (by omega)
  clear hI5 hs5 hc hs6
  refine hK.out _ _ (TS.mk XD) (fun hHeld => ?_)
  clear hK K
  (try simp only [Act.put, Ord.a, Ord.b, Ord.c])
  obtain ⟨⟨r0, r1⟩, r2, r3⟩ := (XD.box 0 _ rfl).two
  refine wpAnyH_ready (rs := [8]) (by kernel_rfl) (by simp) ?_
  refine AllReadyH.cons rfl (fun K hK => ?_) AllReadyH.nil
  go_simp
  replace XD := (XD.put 0 0 rfl (by simp) (.int .i64 x)).put 0 1 rfl (by simp) (.int .i64 y)
  have hI7 := (hI6.chg ((Chg.refl w.heap.size _).setCell 0 (.int .i64 x)) (by omega)).chg ((Chg.refl w.heap.size _).setCell 1 (.int .i64 y)) (by omega)
  clear hI6
  refine hK.out _ _ (TS.mk XD) (fun hHeld => ?_)
  clear hK K r0 r1 r2 r3
  (try simp only [Act.put, Ord.a, Ord.b, Ord.c])
  obtain ⟨r0, r1⟩ := (XD.box 1 _ rfl) 0 _ rfl
  refine wpAnyH_ready (rs := [9]) (by kernel_rfl) (by simp) ?_
  refine AllReadyH.cons rfl (fun K hK => ?_) AllReadyH.nil
  go_simp
  replace XD := XD.put 1 0 rfl (by simp) (.slice (some ⟨g, 0, none⟩) n tc)
  have hI8 := hI7.chg ((Chg.refl (w.heap.size + 1) _).setCell 0 (.slice (some ⟨g, 0, none⟩) n tc)) (by omega)
  clear hI7
  refine hK.out _ _ (TS.mk XD) (fun hHeld => ?_)
  clear hK K r0 r1
  (try simp only [Act.put, Ord.a, Ord.b, Ord.c])
  refine Ord.K 10 4 ?_; refine Ord.K 11 5 ?_
  refine wpAnyH_done (by kernel_rfl) ?_ _
  have XE := XD.to (Ext.refl w) (by omega)
  obtain ⟨⟨h0, h1⟩, _⟩ := (XD.box 0 _ rfl).two
  have k0 := ((XD.box 1 _ rfl) 0 _ rfl).1
  go_wp2
  exact bodyPost_ret (v := .tuple #[Pt x y, Tr (.slice (some ⟨g, 0, none⟩) n tc), .int .i64 t, .int .i64 s]) (by simp [results, Try.results16, go_sem, h0, h1, k0]) rfl ⟨x, y, g, tc, n, t, s, rfl, H1, H41, HC, hI8, XE⟩

end Go.Proofs.Ytlheppblioglpaa.Draw
