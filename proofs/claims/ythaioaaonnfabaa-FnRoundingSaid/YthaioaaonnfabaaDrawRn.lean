/- The contract of DrawRoundingLine: a course and a number come out, and nothing that was there is written. -/
import Derived.Test.YthaioaaonnfabaaDrawCe
namespace Go.Proofs.Ythaioaaonnfabaa.Crs
open Go.ChangeShapes Go.WideShapes Go.ChangeAt Go.RowKit
open Go.Proofs.Ythaioaaonnfabaa.Num Go.Proofs.Ythaioaaonnfabaa.Kit Go.Proofs.Ythaioaaonnfabaa.Pts Go.Proofs.Ythaioaaonnfabaa.Seg Go.Proofs.Ythaioaaonnfabaa.Draw
set_option linter.unusedVariables false
set_option linter.unusedSimpArgs false

/-- Nothing that was there is written but the blocks B and n. -/
structure Chg2 (B n : Nat) (w w' : World) : Prop where
  os : w'.os = w.os
  tape : w'.tape = w.tape
  output : w'.output = w.output
  size : w.heap.size ≤ w'.heap.size
  block : ∀ k, k < w.heap.size → k ≠ B → k ≠ n → w'.heap[k]? = w.heap[k]?
theorem Chg2.of {B n : Nat} {w w' : World} (h : Chg B w w') : Chg2 B n w w' := ⟨h.os, h.tape, h.output, h.size, fun k hk h1 _ => h.block k hk h1⟩
theorem Chg2.set {B n : Nat} {w w' : World} (h : Chg2 B n w w') (o : Nat) (u : Value) : Chg2 B n w (w'.setCell ⟨n, o, none⟩ u) :=
  ⟨h.os, h.tape, h.output, Nat.le_trans h.size (by simp [World.setCell]), fun k hk h1 h2 => (Below.heap_setCell w' ⟨n, o, none⟩ u k (by simpa using h2)).trans (h.block k hk h1 h2)⟩
theorem Chg2.cellOf {B n : Nat} {w w' : World} (h : Chg2 B n w w') {a : Addr} {v : Value} (h1 : a.block ≠ B) (h2 : a.block ≠ n) (hc : w.cell? a = some v) : w'.cell? a = some v := by
  rw [World.cell?_of_block (w := w) (h.block a.block (World.block_lt_of_cell? w _ hc) h1 h2)]; exact hc
theorem Chg2.put9 {B n : Nat} {w w' : World} (H : Chg2 B n w w') (a b c d e f g h i : Value) : Chg2 B n w (Crs.put9 w' n a b c d e f g h i) :=
  ((((((((H.set 0 a).set 1 b).set 2 c).set 3 d).set 4 e).set 5 f).set 6 g).set 7 h).set 8 i

/-- A course and a number. -/
def CnI (w : World) (e : Ending) (w' : World) : Prop :=
  ∃ (l k : L4) (v : Value) (ms : List M5) (n : Int), e = .returned (.tuple #[CV l k v, .int .i64 n]) ∧ ms.length ≤ 9 ∧ Fit ms ∧ OwnM w' w.heap.size v ms ∧ Ext w w'
theorem dri_done {x : Nat} {w F : World} {tmps : Array Value} {l k : L4} {v : Value} {ms : List M5} {n : Int} (R : Box F x (cellsC l k v)) (h9 : ms.length ≤ 9) (hf : Fit ms) (hO : OwnM F w.heap.size v ms) (hx : Ext w F)
    (ha : tmps[2]? = some (.pointer (some ⟨x, 0, none⟩))) (hn : tmps[3]? = some (.int .i64 n)) :
    bodyPost Try.prog Try.f6 (CnI w) Exit.ret ⟨tmps, []⟩ F := by
  obtain ⟨⟨g0, g1, g2, g3, g4, g5, g6, g7, g8⟩, _⟩ := Box.nine R
  exact bodyPost_ret (v := .tuple #[CV l k v, .int .i64 n]) (by simp [results, Try.results6, go_sem, ha, hn, g0, g1, g2, g3, g4, g5, g6, g7, g8]) rfl ⟨l, k, v, ms, n, rfl, h9, hf, hO, hx⟩

set_option maxRecDepth 100000 in
set_option maxHeartbeats 8000000 in
theorem drawRoundingLine_any (a : Option Addr) (len cap : Nat) (w : World) (hb : Bytes w a len) (hl : len ≤ 100000) : Calls Try.prog 6 #[.slice a len cap] w (CnI w) := by
  have HB := Lib.hid hb
  clear hb
  obtain ⟨W0, hW0⟩ : ∃ W0, W0 = w.alloc (.cells (cellsC zeroL zeroL (.slice none 0 0)).toArray 30) := ⟨_, rfl⟩
  have hX : Ext w W0 := hW0 ▸ (Ext.refl w).alloc _
  have hz0 : W0.heap.size = w.heap.size + 1 := by rw [hW0]; simp
  have R := Lib.hid (show Box W0 w.heap.size (cellsC zeroL zeroL (.slice none 0 0)) by rw [hW0]; exact Box.new rfl)
  go_enter Try.func6, Try.ntmps6
  go_wp2_with fail
  rw [← hW0]
  clear hW0
  refine (from_any _ _ _ _ (HB.out.ext hX) hl).mono ?_
  rintro e w1 ⟨B, rfl, hB, hs1, hx1⟩
  replace R := Lib.hid (R.out.ext hx1)
  have hx := Lib.hid (hX.trans hx1)
  have z1 := Ext.size hx1
  have l1 := hs1.lt
  clear hx1 hX HB
  go_wp2_with fail
  refine (drawCAny_any B w1 hs1).mono ?_
  rintro e w2 ⟨l, k, v, ms, rfl, h9, hFit, hO, hs2, hc⟩
  obtain ⟨ao, mc, hv, -⟩ := hO.src
  subst hv
  obtain ⟨n, hn⟩ : ∃ n, n = ms.length := ⟨_, rfl⟩
  have z2 := hc.size
  replace R := Lib.hid ((R.out.chg hc (by omega)).alloc (.cells (cellsC l k (.slice ao n mc)).toArray 30))
  replace hx := Lib.hid ((hc.ext hx.out (by omega)).alloc (.cells (cellsC l k (.slice ao n mc)).toArray 30))
  have HO := Lib.hid (show OwnM (w2.alloc (.cells (cellsC l k (.slice ao n mc)).toArray 30)) w1.heap.size (.slice ao n mc) ms by rw [hn]; exact (OwnM.ext hO ((Ext.refl w2).alloc _)))
  have C1 := Lib.hid (Box.new (w := w2) (n := w2.heap.size) (vs := cellsC l k (.slice ao n mc)) (t := 30) rfl)
  have S1 := Lib.hid (hs2.alloc (.cells (cellsC l k (.slice ao n mc)).toArray 30))
  rw [← hn] at h9
  have hFit := Lib.hid hFit
  rw [← hn]
  have Hn := Lib.hid hn
  clear hc hs1 hs2 hO hn
  have NQ : IntKind.i64.wrap ((n : Int) + 1) = (n : Int) + 1 := IntWalk.i64_in _ (by omega)
  go_upto_region 3 with fail
  generalize w2.alloc (.cells (cellsC l k (.slice ao n mc)).toArray 30) = w3 at *
  have cB : B < w2.heap.size := by omega
  have cR : w.heap.size < w2.heap.size := by omega
  obtain ⟨⟨c0, c1, c2, c3, c4, c5, c6, c7, c8⟩, _⟩ := Box.nine C1.out
  refine wp_region_held_drew (S := fun w' => Chg2 B w.heap.size w3 w') (by kernel_rfl) (by (try dsimp only); exact Chg2.of (Chg.refl B w3).drew) (fun hHeld => ?_)
  have eC0 : ∀ w', Chg2 B w.heap.size w3 w' → w'.cell? ⟨w2.heap.size, 0, none⟩ = _ := fun w' h => h.cellOf (by simp; omega) (by simp; omega) c0
  have eC1 : ∀ w', Chg2 B w.heap.size w3 w' → w'.cell? ⟨w2.heap.size, 1, none⟩ = _ := fun w' h => h.cellOf (by simp; omega) (by simp; omega) c1
  have eC2 : ∀ w', Chg2 B w.heap.size w3 w' → w'.cell? ⟨w2.heap.size, 2, none⟩ = _ := fun w' h => h.cellOf (by simp; omega) (by simp; omega) c2
  have eC3 : ∀ w', Chg2 B w.heap.size w3 w' → w'.cell? ⟨w2.heap.size, 3, none⟩ = _ := fun w' h => h.cellOf (by simp; omega) (by simp; omega) c3
  have eC4 : ∀ w', Chg2 B w.heap.size w3 w' → w'.cell? ⟨w2.heap.size, 4, none⟩ = _ := fun w' h => h.cellOf (by simp; omega) (by simp; omega) c4
  have eC5 : ∀ w', Chg2 B w.heap.size w3 w' → w'.cell? ⟨w2.heap.size, 5, none⟩ = _ := fun w' h => h.cellOf (by simp; omega) (by simp; omega) c5
  have eC6 : ∀ w', Chg2 B w.heap.size w3 w' → w'.cell? ⟨w2.heap.size, 6, none⟩ = _ := fun w' h => h.cellOf (by simp; omega) (by simp; omega) c6
  have eC7 : ∀ w', Chg2 B w.heap.size w3 w' → w'.cell? ⟨w2.heap.size, 7, none⟩ = _ := fun w' h => h.cellOf (by simp; omega) (by simp; omega) c7
  have eC8 : ∀ w', Chg2 B w.heap.size w3 w' → w'.cell? ⟨w2.heap.size, 8, none⟩ = _ := fun w' h => h.cellOf (by simp; omega) (by simp; omega) c8
  clear c0 c1 c2 c3 c4 c5 c6 c7 c8
  (refine Ord.takeH 0 10 (v := ?_) rfl rfl (by kernel_rfl) (by kernel_rfl) (by kernel_rfl) (fun _ _ _ h => h) (by rfl) ?_ (by assumption) ?_; rotate_left; (intro w hSw; (try dsimp only at hSw); go_simp; (first | done | with_reducible rfl)); (try simp only [Act.put, List.setIfInBounds_toArray, List.set_cons_zero, List.set_cons_succ])); (refine Ord.takeH 1 11 (v := ?_) rfl rfl (by kernel_rfl) (by kernel_rfl) (by kernel_rfl) (fun _ _ _ h => h) (by rfl) ?_ (by assumption) ?_; rotate_left; (intro w hSw; (try dsimp only at hSw); go_simp; (first | done | with_reducible rfl)); (try simp only [Act.put, List.setIfInBounds_toArray, List.set_cons_zero, List.set_cons_succ])); (refine Ord.takeH 2 12 (v := ?_) rfl rfl (by kernel_rfl) (by kernel_rfl) (by kernel_rfl) (fun _ _ _ h => h) (by rfl) ?_ (by assumption) ?_; rotate_left; (intro w hSw; (try dsimp only at hSw); go_simp; (first | done | with_reducible rfl)); (try simp only [Act.put, List.setIfInBounds_toArray, List.set_cons_zero, List.set_cons_succ])); (refine Ord.takeH 3 13 (v := ?_) rfl rfl (by kernel_rfl) (by kernel_rfl) (by kernel_rfl) (fun _ _ _ h => h) (by rfl) ?_ (by assumption) ?_; rotate_left; (intro w hSw; (try dsimp only at hSw); go_simp; (first | done | with_reducible rfl)); (try simp only [Act.put, List.setIfInBounds_toArray, List.set_cons_zero, List.set_cons_succ])); (refine Ord.takeH 4 14 (v := ?_) rfl rfl (by kernel_rfl) (by kernel_rfl) (by kernel_rfl) (fun _ _ _ h => h) (by rfl) ?_ (by assumption) ?_; rotate_left; (intro w hSw; (try dsimp only at hSw); go_simp; (first | done | with_reducible rfl)); (try simp only [Act.put, List.setIfInBounds_toArray, List.set_cons_zero, List.set_cons_succ])); (refine Ord.takeH 5 15 (v := ?_) rfl rfl (by kernel_rfl) (by kernel_rfl) (by kernel_rfl) (fun _ _ _ h => h) (by rfl) ?_ (by assumption) ?_; rotate_left; (intro w hSw; (try dsimp only at hSw); go_simp; (first | done | with_reducible rfl)); (try simp only [Act.put, List.setIfInBounds_toArray, List.set_cons_zero, List.set_cons_succ])); (refine Ord.takeH 7 17 (v := ?_) rfl rfl (by kernel_rfl) (by kernel_rfl) (by kernel_rfl) (fun _ _ _ h => h) (by rfl) ?_ (by assumption) ?_; rotate_left; (intro w hSw; (try dsimp only at hSw); go_simp; (first | done | with_reducible rfl)); (try simp only [Act.put, List.setIfInBounds_toArray, List.set_cons_zero, List.set_cons_succ]))
  clear eC0 eC1 eC2 eC3 eC4 eC5 eC6 eC7 eC8
  refine wpAnyH_ready (rs := [6]) (by kernel_rfl) (by simp) ?_
  refine (AllReadyH.cons rfl (fun K hK => ?_) AllReadyH.nil)
  go_simp
  go_at_call 16
  refine (next_any B _ _ S1.out.drew).mono ?_
  rintro e w7 ⟨q7, rfl, q70, q71, q72, hs7, hc⟩
  go_wp2_with fail
  have z7 := hc.size
  have p7 : q7 ≤ 9 := by
    by_cases g : 1 < (n : Int) + 1
    · have := q71 g; omega
    · have := q72 (by omega); omega
  have hc7 : Chg B w3 w7 := (Chg.refl B w3).drew.trans hc
  refine hK.out _ _ (Chg2.of hc7) (fun hHeld => ?_)
  clear hK K hc q71 q72
  (try simp only [Act.put, List.setIfInBounds_toArray, List.set_cons_zero, List.set_cons_succ])
  refine wpAnyH_ready (rs := [8]) (by kernel_rfl) (by simp) ?_
  refine (AllReadyH.cons rfl (fun K hK => ?_) AllReadyH.nil)
  go_simp
  go_at_call 16
  refine (next_pos B _ _ hs7 (by omega)).mono ?_
  rintro e w8 ⟨q8, rfl, q80, q81, hs8, hc⟩
  go_wp2_with fail
  have z8 := hc.size
  have hc8 : Chg B w3 w8 := hc7.trans hc
  have hC8 := Chg2.of (n := w.heap.size) hc8
  refine hK.out _ _ hC8 (fun hHeld => ?_)
  clear hK K hc hc7 hs7 hs8
  (try simp only [Act.put, List.setIfInBounds_toArray, List.set_cons_zero, List.set_cons_succ])
  obtain ⟨t0, t1⟩ := tdiv_bd (b := 15) (by omega) 16 (a := q8) (by omega) (by omega)
  have TW : IntKind.i64.wrap (q8.tdiv 15) = q8.tdiv 15 := IntWalk.i64_in _ (by omega)
  have TV : IntKind.i64.wrap (q7 - q8.tdiv 15) = q7 - q8.tdiv 15 := IntWalk.i64_in _ (by omega)
  (refine Ord.takeH 9 19 (v := ?_) rfl rfl (by kernel_rfl) (by kernel_rfl) (by kernel_rfl) (fun _ _ _ h => h) (by rfl) ?_ (by assumption) ?_; rotate_left; (intro w hSw; (try dsimp only at hSw); go_simp; (first | done | with_reducible rfl)); (try simp only [Act.put, List.setIfInBounds_toArray, List.set_cons_zero, List.set_cons_succ])); (refine Ord.takeH 10 20 (v := ?_) rfl rfl (by kernel_rfl) (by kernel_rfl) (by kernel_rfl) (fun _ _ _ h => h) (by rfl) ?_ (by assumption) ?_; rotate_left; (intro w hSw; (try dsimp only at hSw); go_simp; (first | done | with_reducible rfl)); (try simp only [Act.put, List.setIfInBounds_toArray, List.set_cons_zero, List.set_cons_succ]))
  obtain ⟨N, hN⟩ : ∃ N, N = q7 - q8.tdiv 15 := ⟨_, rfl⟩
  rw [← hN]
  clear TW TV t0 t1 hN
  have R7 := R.out.chg hc8 (by omega)
  have X7 := Lib.hid (hc8.ext hx.out (by omega))
  have O7 := Lib.hid (OwnM.chg HO.out hc8 (HO.out.block (by omega)))
  have R8 := Lib.hid (Box.put9 R7 (.int .i64 l.a) (.int .i64 l.b) (.int .i64 l.c) (.int .i64 l.d) (.int .i64 k.a) (.int .i64 k.b) (.int .i64 k.c) (.int .i64 k.d) (.slice ao n mc))
  have hC9 := hC8.put9 (.int .i64 l.a) (.int .i64 l.b) (.int .i64 l.c) (.int .i64 l.d) (.int .i64 k.a) (.int .i64 k.b) (.int .i64 k.c) (.int .i64 k.d) (.slice ao n mc)
  have X8 := Lib.hid (Ext.put9 X7.out (n := w.heap.size) (Nat.le_refl _) (.int .i64 l.a) (.int .i64 l.b) (.int .i64 l.c) (.int .i64 l.d) (.int .i64 k.a) (.int .i64 k.b) (.int .i64 k.c) (.int .i64 k.d) (.slice ao n mc))
  have O8 := Lib.hid (row_mono (b2 := w.heap.size) (OwnM.chg O7.out (Chg.put9 (n := w.heap.size) (.int .i64 l.a) (.int .i64 l.b) (.int .i64 l.c) (.int .i64 l.d) (.int .i64 k.a) (.int .i64 k.b) (.int .i64 k.c) (.int .i64 k.d) (.slice ao n mc)) (O7.out.block (by omega))) (by omega))
  obtain ⟨⟨r0, r1, r2, r3, r4, r5, r6, r7, r8⟩, g0, g1, g2, g3, g4, g5, g6, g7, g8⟩ := Box.nine R7
  clear R7 X7 O7 hC8 R hx HO C1 S1
  refine wpAnyH_ready (rs := [11]) (by kernel_rfl) (by simp) ?_
  refine (AllReadyH.cons rfl (fun K hK => ?_) AllReadyH.nil)
  go_simp
  refine hK.out _ _ hC9 (fun hHeld => ?_)
  clear hK K
  (try simp only [Act.put, List.setIfInBounds_toArray, List.set_cons_zero, List.set_cons_succ])
  clear r0 r1 r2 r3 r4 r5 r6 r7 r8 g0 g1 g2 g3 g4 g5 g6 g7 g8
  unfold Crs.put9 at R8 hC9 X8 O8
  generalize ((((((((w8.setCell ⟨w.heap.size, 0, none⟩ (.int .i64 l.a)).setCell ⟨w.heap.size, 1, none⟩ (.int .i64 l.b)).setCell ⟨w.heap.size, 2, none⟩ (.int .i64 l.c)).setCell ⟨w.heap.size, 3, none⟩ (.int .i64 l.d)).setCell ⟨w.heap.size, 4, none⟩ (.int .i64 k.a)).setCell ⟨w.heap.size, 5, none⟩ (.int .i64 k.b)).setCell ⟨w.heap.size, 6, none⟩ (.int .i64 k.c)).setCell ⟨w.heap.size, 7, none⟩ (.int .i64 k.d)).setCell ⟨w.heap.size, 8, none⟩ (.slice ao n mc) = w9 at *
  (refine Ord.takeH 12 3 (v := ?_) rfl rfl (by kernel_rfl) (by kernel_rfl) (by kernel_rfl) (fun _ _ _ h => h) (by rfl) ?_ (by assumption) ?_; rotate_left; (intro w hSw; (try dsimp only at hSw); go_simp; (first | done | with_reducible rfl)); (try simp only [Act.put, List.setIfInBounds_toArray, List.set_cons_zero, List.set_cons_succ]))
  refine wpAnyH_done (by kernel_rfl) ?_ _
  go_wp2
  exact dri_done R8.out (by rw [← Hn.out]; exact h9) hFit.out O8.out X8.out rfl rfl

end Go.Proofs.Ythaioaaonnfabaa.Crs
