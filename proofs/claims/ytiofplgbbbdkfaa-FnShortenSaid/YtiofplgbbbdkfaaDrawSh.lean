/- The contract of DrawShortenCourse: a course, a number and a line come out, and nothing that was there is written. -/
import Derived.Test.YtiofplgbbbdkfaaDrawCe
namespace Go.Proofs.Ytiofplgbbbdkfaa.Crs
open Go.ChangeShapes Go.WideShapes Go.ChangeAt Go.RowKit
open Go.Proofs.Ytiofplgbbbdkfaa.Num Go.Proofs.Ytiofplgbbbdkfaa.Kit Go.Proofs.Ytiofplgbbbdkfaa.Pts Go.Proofs.Ytiofplgbbbdkfaa.Seg Go.Proofs.Ytiofplgbbbdkfaa.Draw
set_option linter.unusedVariables false
set_option linter.unusedSimpArgs false

/-- Nothing that was there is written but the blocks B, n and m. -/
structure Chg3 (B n m : Nat) (w w' : World) : Prop where
  os : w'.os = w.os
  tape : w'.tape = w.tape
  output : w'.output = w.output
  size : w.heap.size ≤ w'.heap.size
  block : ∀ k, k < w.heap.size → k ≠ B → k ≠ n → k ≠ m → w'.heap[k]? = w.heap[k]?
theorem Chg3.of {B n m : Nat} {w w' : World} (h : Chg B w w') : Chg3 B n m w w' := ⟨h.os, h.tape, h.output, h.size, fun k hk h1 _ _ => h.block k hk h1⟩
theorem Chg3.set {B n m : Nat} {w w' : World} (h : Chg3 B n m w w') {p : Addr} (hp : p.block = n ∨ p.block = m) (u : Value) : Chg3 B n m w (w'.setCell p u) :=
  ⟨h.os, h.tape, h.output, Nat.le_trans h.size (by simp [World.setCell]), fun k hk h1 h2 h3 => (Below.heap_setCell w' p u k (by omega)).trans (h.block k hk h1 h2 h3)⟩
theorem Chg3.cellOf {B n m : Nat} {w w' : World} (h : Chg3 B n m w w') {a : Addr} {v : Value} (h1 : a.block ≠ B) (h2 : a.block ≠ n) (h3 : a.block ≠ m) (hc : w.cell? a = some v) : w'.cell? a = some v := by
  rw [World.cell?_of_block (w := w) (h.block a.block (World.block_lt_of_cell? w _ hc) h1 h2 h3)]; exact hc

theorem Chg3.put9 {B n m : Nat} {w w' : World} (H : Chg3 B n m w w') (a b c d e f g h i : Value) : Chg3 B n m w (Crs.put9 w' n a b c d e f g h i) :=
  ((((((((H.set (.inl rfl) a).set (.inl rfl) b).set (.inl rfl) c).set (.inl rfl) d).set (.inl rfl) e).set (.inl rfl) f).set (.inl rfl) g).set (.inl rfl) h).set (.inl rfl) i

/-- A course, a number and a line. -/
def CnL (w : World) (e : Ending) (w' : World) : Prop :=
  ∃ (l k : L4) (v : Value) (ms : List M5) (n a b c d : Int), e = .returned (.tuple #[CV l k v, .int .i64 n, Sg a b c d]) ∧ ms.length ≤ 9 ∧ Fit ms ∧ OwnM w' w.heap.size v ms ∧ Ext w w'
theorem dsh_done {x y : Nat} {w F : World} {tmps : Array Value} {l k : L4} {v : Value} {ms : List M5} {n a b c d : Int} (R : Box F x (cellsC l k v)) (R2 : Box F y [.int .i64 a, .int .i64 b, .int .i64 c, .int .i64 d]) (h9 : ms.length ≤ 9) (hf : Fit ms) (hO : OwnM F w.heap.size v ms) (hx : Ext w F)
    (ha : tmps[2]? = some (.pointer (some ⟨x, 0, none⟩))) (hn : tmps[3]? = some (.int .i64 n)) (hb : tmps[4]? = some (.pointer (some ⟨y, 0, none⟩))) :
    bodyPost Try.prog Try.f12 (CnL w) Exit.ret ⟨tmps, []⟩ F := by
  obtain ⟨⟨g0, g1, g2, g3, g4, g5, g6, g7, g8⟩, _⟩ := Box.nine R
  obtain ⟨⟨f0, f1, f2, f3⟩, _⟩ := R2.four
  exact bodyPost_ret (v := .tuple #[CV l k v, .int .i64 n, Sg a b c d]) (by simp [results, Try.results12, go_sem, ha, hb, hn, g0, g1, g2, g3, g4, g5, g6, g7, g8, f0, f1, f2, f3]) rfl ⟨l, k, v, ms, n, a, b, c, d, rfl, h9, hf, hO, hx⟩

set_option maxRecDepth 100000 in
set_option maxHeartbeats 16000000 in
theorem drawShortenCourse_any (a : Option Addr) (len cap : Nat) (w : World) (hb : Bytes w a len) (hl : len ≤ 100000) : Calls Try.prog 12 #[.slice a len cap] w (CnL w) := by
  have HB := Lib.hid hb
  clear hb
  obtain ⟨W0, hW0⟩ : ∃ W0, W0 = (w.alloc (.cells (cellsC zeroL zeroL (.slice none 0 0)).toArray 30)).alloc (.cells #[.int .i64 0, .int .i64 0, .int .i64 0, .int .i64 0] 27) := ⟨_, rfl⟩
  have hX : Ext w W0 := hW0 ▸ ((Ext.refl w).alloc _).alloc _
  have hz0 : W0.heap.size = w.heap.size + 1 + 1 := by rw [hW0]; simp
  have R := Lib.hid (show Box W0 w.heap.size (cellsC zeroL zeroL (.slice none 0 0)) by rw [hW0]; exact (Box.new rfl).alloc _)
  have Q := Lib.hid (show Box W0 (w.heap.size + 1) [.int .i64 0, .int .i64 0, .int .i64 0, .int .i64 0] by rw [hW0]; exact Box.new4 (by simp))
  go_enter Try.func12, Try.ntmps12
  go_wp2_with fail
  rw [← hW0]
  clear hW0
  refine (from_any _ _ _ _ (HB.out.ext hX) hl).mono ?_
  rintro e w1 ⟨B, rfl, hB, hs1, hx1⟩
  replace R := Lib.hid (R.out.ext hx1)
  replace Q := Lib.hid (Q.out.ext hx1)
  have hx := Lib.hid (hX.trans hx1)
  have z1 := Ext.size hx1
  have l1 := hs1.lt
  clear hx1 hX HB
  go_wp2_with fail
  refine (drawCAny_any B w1 hs1).mono ?_
  rintro e w2 ⟨l, k, v, ms, rfl, h9, hFit, hO, hs2, hc⟩
  obtain ⟨ao, mc, hv, -⟩ := hO.src
  subst hv
  obtain ⟨n, hn⟩ : ∃ n, n = ms.length := ⟨_, rfl⟩
  have z2 := hc.size
  replace R := Lib.hid ((R.out.chg hc (by omega)).alloc (.cells (cellsC l k (.slice ao n mc)).toArray 30))
  replace Q := Lib.hid ((Q.out.chg hc (by omega)).alloc (.cells (cellsC l k (.slice ao n mc)).toArray 30))
  replace hx := Lib.hid ((hc.ext hx.out (by omega)).alloc (.cells (cellsC l k (.slice ao n mc)).toArray 30))
  have HO := Lib.hid (show OwnM (w2.alloc (.cells (cellsC l k (.slice ao n mc)).toArray 30)) w1.heap.size (.slice ao n mc) ms by rw [hn]; exact (OwnM.ext hO ((Ext.refl w2).alloc _)))
  have nO := Lib.hid (show (Value.slice ao n mc).ownBlock ≠ some w2.heap.size from by rw [hn]; exact fun e => by have := (World.ownsRow.lt hO _ e).2; omega)
  have C1 := Lib.hid (Box.new (w := w2) (n := w2.heap.size) (vs := cellsC l k (.slice ao n mc)) (t := 30) rfl)
  have S1 := hs2.alloc (.cells (cellsC l k (.slice ao n mc)).toArray 30)
  have zA : (w2.alloc (.cells (cellsC l k (.slice ao n mc)).toArray 30)).heap.size = w2.heap.size + 1 := by simp
  rw [← hn] at h9
  have hFit := Lib.hid hFit
  rw [← hn]
  have Hn := Lib.hid hn
  clear hc hs1 hs2 hO hn
  go_wp2_with fail
  generalize w2.alloc (.cells (cellsC l k (.slice ao n mc)).toArray 30) = w3 at *
  obtain ⟨C, hC⟩ : ∃ C, C = w2.heap.size := ⟨_, rfl⟩
  rw [← hC] at nO C1 zA
  rw [← hC]
  have cB : B < C := by omega
  have cR : w.heap.size + 1 < C := by omega
  refine (drawLi_any B w3 S1).mono ?_
  rintro e w4 ⟨a, b, c, d, rfl, hs2, hc⟩
  have z4 := hc.size
  replace R := Lib.hid ((R.out.chg hc (by omega)).alloc (.cells #[.int .i64 a, .int .i64 b, .int .i64 c, .int .i64 d] 27))
  replace Q := Lib.hid ((Q.out.chg hc (by omega)).alloc (.cells #[.int .i64 a, .int .i64 b, .int .i64 c, .int .i64 d] 27))
  replace hx := Lib.hid ((hc.ext hx.out (by omega)).alloc (.cells #[.int .i64 a, .int .i64 b, .int .i64 c, .int .i64 d] 27))
  have HO4 := OwnM.chg HO.out hc (HO.out.block (by omega))
  have nD := Lib.hid (show (Value.slice ao n mc).ownBlock ≠ some w4.heap.size from fun e => by have := (World.ownsRow.lt HO4 _ e).2; omega)
  replace HO := Lib.hid (OwnM.ext HO4 ((Ext.refl w4).alloc (.cells #[.int .i64 a, .int .i64 b, .int .i64 c, .int .i64 d] 27)))
  clear HO4
  replace C1 := Lib.hid ((C1.out.chg hc (by omega)).alloc (.cells #[.int .i64 a, .int .i64 b, .int .i64 c, .int .i64 d] 27))
  have D1 := Lib.hid (Box.new4 (w := w4) (n := w4.heap.size) (x := .int .i64 a) (y := .int .i64 b) (z := .int .i64 c) (u := .int .i64 d) (t := 27) rfl)
  replace S1 := hs2.alloc (.cells #[.int .i64 a, .int .i64 b, .int .i64 c, .int .i64 d] 27)
  have zB : (w4.alloc (.cells #[.int .i64 a, .int .i64 b, .int .i64 c, .int .i64 d] 27)).heap.size = w4.heap.size + 1 := by simp
  clear hc hs2 hC
  go_wp2_with fail
  generalize w4.alloc (.cells #[.int .i64 a, .int .i64 b, .int .i64 c, .int .i64 d] 27) = w5 at *
  refine (next_pos B _ _ S1 (by omega)).mono ?_
  rintro e w6 ⟨r, rfl, r0, r1, hs2, hc⟩
  have z6 := hc.size
  replace R := Lib.hid (R.out.chg hc (by omega))
  replace Q := Lib.hid (Q.out.chg hc (by omega))
  replace hx := Lib.hid (hc.ext hx.out (by omega))
  replace HO := Lib.hid (OwnM.chg HO.out hc (HO.out.block (by omega)))
  replace C1 := Lib.hid (C1.out.chg hc (by omega))
  replace D1 := Lib.hid (D1.out.chg hc (by omega))
  have S6 := Lib.hid hs2
  have cD : C < w4.heap.size := by omega
  have dB : B < w4.heap.size := by omega
  clear hc hs2 S1
  obtain ⟨⟨d0, d1, d2, d3⟩, f0, f1, f2, f3⟩ := D1.out.four
  have NQ : IntKind.i64.wrap ((n : Int) + 2) = (n : Int) + 2 := IntWalk.i64_in _ (by omega)
  by_cases h0 : r = 0
  · have t0 : (r == 0) = true := beq_iff_eq.2 h0
    go_upto_region 6 with fail
    have hD : Chg w4.heap.size w6 ((w6.setCell ⟨w4.heap.size, 2, none⟩ (.int .i64 a)).setCell ⟨w4.heap.size, 3, none⟩ (.int .i64 b)) := ((Chg.refl _ _).setCell _ _).setCell _ _
    replace R := Lib.hid (R.out.chg hD (by omega))
    replace Q := Lib.hid (Q.out.chg hD (by omega))
    replace hx := Lib.hid (hD.ext hx.out (by omega))
    replace HO := Lib.hid (OwnM.chg HO.out hD nD.out)
    replace C1 := Lib.hid (C1.out.chg hD (by omega))
    replace D1 := Lib.hid (show Box ((w6.setCell ⟨w4.heap.size, 2, none⟩ (.int .i64 a)).setCell ⟨w4.heap.size, 3, none⟩ (.int .i64 b)) w4.heap.size [.int .i64 a, .int .i64 b, .int .i64 a, .int .i64 b] from (D1.out.set 2 (by simp) (.int .i64 a)).set 3 (by simp) (.int .i64 b))
    replace S6 := Lib.hid ((S6.out.setCell (p := ⟨w4.heap.size, 2, none⟩) (by simp; omega) (.int .i64 a)).setCell (p := ⟨w4.heap.size, 3, none⟩) (by simp; omega) (.int .i64 b))
    have zF := hD.size
    clear d0 d1 d2 d3 f0 f1 f2 f3 hD h0 t0
    generalize ((w6.setCell ⟨w4.heap.size, 2, none⟩ (.int .i64 a)).setCell ⟨w4.heap.size, 3, none⟩ (.int .i64 b)) = F at *
    obtain ⟨⟨d0, d1, d2, d3⟩, _⟩ := D1.out.four
    obtain ⟨⟨c0, c1, c2, c3, c4, c5, c6, c7, c8⟩, _⟩ := Box.nine C1.out
    refine wp_region_held_drew (S := fun w' => Chg3 B w.heap.size (w.heap.size + 1) F w') (by kernel_rfl) (by (try dsimp only); exact Chg3.of (Chg.refl B F).drew) (fun hHeld => ?_)
    have eD0 : ∀ w', Chg3 B w.heap.size (w.heap.size + 1) F w' → w'.cell? ⟨w4.heap.size, 0, none⟩ = _ := fun w' h => h.cellOf (by simp; omega) (by simp; omega) (by simp; omega) d0
    have eD1 : ∀ w', Chg3 B w.heap.size (w.heap.size + 1) F w' → w'.cell? ⟨w4.heap.size, 1, none⟩ = _ := fun w' h => h.cellOf (by simp; omega) (by simp; omega) (by simp; omega) d1
    have eD2 : ∀ w', Chg3 B w.heap.size (w.heap.size + 1) F w' → w'.cell? ⟨w4.heap.size, 2, none⟩ = _ := fun w' h => h.cellOf (by simp; omega) (by simp; omega) (by simp; omega) d2
    have eD3 : ∀ w', Chg3 B w.heap.size (w.heap.size + 1) F w' → w'.cell? ⟨w4.heap.size, 3, none⟩ = _ := fun w' h => h.cellOf (by simp; omega) (by simp; omega) (by simp; omega) d3
    have eC0 : ∀ w', Chg3 B w.heap.size (w.heap.size + 1) F w' → w'.cell? ⟨C, 0, none⟩ = _ := fun w' h => h.cellOf (by simp; omega) (by simp; omega) (by simp; omega) c0
    have eC1 : ∀ w', Chg3 B w.heap.size (w.heap.size + 1) F w' → w'.cell? ⟨C, 1, none⟩ = _ := fun w' h => h.cellOf (by simp; omega) (by simp; omega) (by simp; omega) c1
    have eC2 : ∀ w', Chg3 B w.heap.size (w.heap.size + 1) F w' → w'.cell? ⟨C, 2, none⟩ = _ := fun w' h => h.cellOf (by simp; omega) (by simp; omega) (by simp; omega) c2
    have eC3 : ∀ w', Chg3 B w.heap.size (w.heap.size + 1) F w' → w'.cell? ⟨C, 3, none⟩ = _ := fun w' h => h.cellOf (by simp; omega) (by simp; omega) (by simp; omega) c3
    have eC4 : ∀ w', Chg3 B w.heap.size (w.heap.size + 1) F w' → w'.cell? ⟨C, 4, none⟩ = _ := fun w' h => h.cellOf (by simp; omega) (by simp; omega) (by simp; omega) c4
    have eC5 : ∀ w', Chg3 B w.heap.size (w.heap.size + 1) F w' → w'.cell? ⟨C, 5, none⟩ = _ := fun w' h => h.cellOf (by simp; omega) (by simp; omega) (by simp; omega) c5
    have eC6 : ∀ w', Chg3 B w.heap.size (w.heap.size + 1) F w' → w'.cell? ⟨C, 6, none⟩ = _ := fun w' h => h.cellOf (by simp; omega) (by simp; omega) (by simp; omega) c6
    have eC7 : ∀ w', Chg3 B w.heap.size (w.heap.size + 1) F w' → w'.cell? ⟨C, 7, none⟩ = _ := fun w' h => h.cellOf (by simp; omega) (by simp; omega) (by simp; omega) c7
    have eC8 : ∀ w', Chg3 B w.heap.size (w.heap.size + 1) F w' → w'.cell? ⟨C, 8, none⟩ = _ := fun w' h => h.cellOf (by simp; omega) (by simp; omega) (by simp; omega) c8
    clear d0 d1 d2 d3 c0 c1 c2 c3 c4 c5 c6 c7 c8
    (refine Ord.takeH 0 20 (v := ?_) rfl rfl (by kernel_rfl) (by kernel_rfl) (by kernel_rfl) (fun _ _ _ h => h) (by rfl) ?_ (by assumption) ?_; rotate_left; (intro w hSw; (try dsimp only at hSw); go_simp; (first | done | with_reducible rfl)); (try simp only [Act.put, List.setIfInBounds_toArray, List.set_cons_zero, List.set_cons_succ])); (refine Ord.takeH 1 21 (v := ?_) rfl rfl (by kernel_rfl) (by kernel_rfl) (by kernel_rfl) (fun _ _ _ h => h) (by rfl) ?_ (by assumption) ?_; rotate_left; (intro w hSw; (try dsimp only at hSw); go_simp; (first | done | with_reducible rfl)); (try simp only [Act.put, List.setIfInBounds_toArray, List.set_cons_zero, List.set_cons_succ])); (refine Ord.takeH 2 22 (v := ?_) rfl rfl (by kernel_rfl) (by kernel_rfl) (by kernel_rfl) (fun _ _ _ h => h) (by rfl) ?_ (by assumption) ?_; rotate_left; (intro w hSw; (try dsimp only at hSw); go_simp; (first | done | with_reducible rfl)); (try simp only [Act.put, List.setIfInBounds_toArray, List.set_cons_zero, List.set_cons_succ])); (refine Ord.takeH 3 23 (v := ?_) rfl rfl (by kernel_rfl) (by kernel_rfl) (by kernel_rfl) (fun _ _ _ h => h) (by rfl) ?_ (by assumption) ?_; rotate_left; (intro w hSw; (try dsimp only at hSw); go_simp; (first | done | with_reducible rfl)); (try simp only [Act.put, List.setIfInBounds_toArray, List.set_cons_zero, List.set_cons_succ])); (refine Ord.takeH 4 24 (v := ?_) rfl rfl (by kernel_rfl) (by kernel_rfl) (by kernel_rfl) (fun _ _ _ h => h) (by rfl) ?_ (by assumption) ?_; rotate_left; (intro w hSw; (try dsimp only at hSw); go_simp; (first | done | with_reducible rfl)); (try simp only [Act.put, List.setIfInBounds_toArray, List.set_cons_zero, List.set_cons_succ])); (refine Ord.takeH 5 25 (v := ?_) rfl rfl (by kernel_rfl) (by kernel_rfl) (by kernel_rfl) (fun _ _ _ h => h) (by rfl) ?_ (by assumption) ?_; rotate_left; (intro w hSw; (try dsimp only at hSw); go_simp; (first | done | with_reducible rfl)); (try simp only [Act.put, List.setIfInBounds_toArray, List.set_cons_zero, List.set_cons_succ])); (refine Ord.takeH 7 27 (v := ?_) rfl rfl (by kernel_rfl) (by kernel_rfl) (by kernel_rfl) (fun _ _ _ h => h) (by rfl) ?_ (by assumption) ?_; rotate_left; (intro w hSw; (try dsimp only at hSw); go_simp; (first | done | with_reducible rfl)); (try simp only [Act.put, List.setIfInBounds_toArray, List.set_cons_zero, List.set_cons_succ]))
    clear eD0 eD1 eD2 eD3 eC0 eC1 eC2 eC3 eC4 eC5 eC6 eC7 eC8
    refine wpAnyH_ready (rs := [6]) (by kernel_rfl) (by simp) ?_
    refine (AllReadyH.cons rfl (fun K hK => ?_) AllReadyH.nil)
    go_simp
    go_at_call 32
    refine (next_pos B _ _ S6.out.drew (by omega)).mono ?_
    rintro e w7 ⟨q7, rfl, q70, q71, hs7, hc⟩
    go_wp2_with fail
    have z7 := hc.size
    have hc7 : Chg B F w7 := (Chg.refl B F).drew.trans hc
    have hC7 := Chg3.of (n := w.heap.size) (m := w.heap.size + 1) hc7
    refine hK.out _ _ hC7 (fun hHeld => ?_)
    clear hK K
    (try simp only [Act.put, List.setIfInBounds_toArray, List.set_cons_zero, List.set_cons_succ])
    have R7 := R.out.chg hc7 (by omega)
    have Q7 := Q.out.chg hc7 (by omega)
    have X7 := Lib.hid (hc7.ext hx.out (by omega))
    have O7 := Lib.hid (OwnM.chg HO.out hc7 (HO.out.block (by omega)))
    have R8 := Lib.hid (Box.put9 R7 (.int .i64 l.a) (.int .i64 l.b) (.int .i64 l.c) (.int .i64 l.d) (.int .i64 k.a) (.int .i64 k.b) (.int .i64 k.c) (.int .i64 k.d) (.slice ao n mc))
    have Q8 := Box.put9_away Q7 (n := w.heap.size) (by omega) (.int .i64 l.a) (.int .i64 l.b) (.int .i64 l.c) (.int .i64 l.d) (.int .i64 k.a) (.int .i64 k.b) (.int .i64 k.c) (.int .i64 k.d) (.slice ao n mc)
    have hC8 := hC7.put9 (.int .i64 l.a) (.int .i64 l.b) (.int .i64 l.c) (.int .i64 l.d) (.int .i64 k.a) (.int .i64 k.b) (.int .i64 k.c) (.int .i64 k.d) (.slice ao n mc)
    have X8 := Lib.hid (Ext.put9 X7.out (n := w.heap.size) (Nat.le_refl _) (.int .i64 l.a) (.int .i64 l.b) (.int .i64 l.c) (.int .i64 l.d) (.int .i64 k.a) (.int .i64 k.b) (.int .i64 k.c) (.int .i64 k.d) (.slice ao n mc))
    have O8 := Lib.hid (OwnM.chg O7.out (Chg.put9 (n := w.heap.size) (.int .i64 l.a) (.int .i64 l.b) (.int .i64 l.c) (.int .i64 l.d) (.int .i64 k.a) (.int .i64 k.b) (.int .i64 k.c) (.int .i64 k.d) (.slice ao n mc)) (O7.out.block (by omega)))
    obtain ⟨⟨r0, r1, r2, r3, r4, r5, r6, r7, r8⟩, g0, g1, g2, g3, g4, g5, g6, g7, g8⟩ := Box.nine R7
    clear R7 Q7 X7 O7 hC7 hc hs7
    refine wpAnyH_ready (rs := [8]) (by kernel_rfl) (by simp) ?_
    refine (AllReadyH.cons rfl (fun K hK => ?_) AllReadyH.nil)
    go_simp
    refine hK.out _ _ hC8 (fun hHeld => ?_)
    clear hK K
    (try simp only [Act.put, List.setIfInBounds_toArray, List.set_cons_zero, List.set_cons_succ])
    clear r0 r1 r2 r3 r4 r5 r6 r7 r8 g0 g1 g2 g3 g4 g5 g6 g7 g8
    unfold Crs.put9 at R8 Q8 hC8 X8 O8
    generalize (((((((((w7.setCell ⟨w.heap.size, 0, none⟩ (.int .i64 l.a)).setCell ⟨w.heap.size, 1, none⟩ (.int .i64 l.b)).setCell ⟨w.heap.size, 2, none⟩ (.int .i64 l.c)).setCell ⟨w.heap.size, 3, none⟩ (.int .i64 l.d)).setCell ⟨w.heap.size, 4, none⟩ (.int .i64 k.a)).setCell ⟨w.heap.size, 5, none⟩ (.int .i64 k.b)).setCell ⟨w.heap.size, 6, none⟩ (.int .i64 k.c)).setCell ⟨w.heap.size, 7, none⟩ (.int .i64 k.d)).setCell ⟨w.heap.size, 8, none⟩ (.slice ao n mc)) = w8 at *
    refine wpAnyH_ready (rs := [9]) (by kernel_rfl) (by simp) ?_
    refine (AllReadyH.cons rfl (fun K hK => ?_) AllReadyH.nil)
    go_simp
    refine hK.out _ _ hC8 (fun hHeld => ?_)
    clear hK K
    (try simp only [Act.put, List.setIfInBounds_toArray, List.set_cons_zero, List.set_cons_succ])
    obtain ⟨⟨j0, j1, j2, j3⟩, h0, h1, h2, h3⟩ := Q8.four
    have Q9 := Lib.hid (Box.set4 Q8 (a := .int .i64 a) (b := .int .i64 b) (c := .int .i64 a) (d := .int .i64 b))
    have R9 := Lib.hid (Box.away4 R8.out (m := w.heap.size + 1) (i := 0) (j := 1) (k := 2) (l := 3) (a := .int .i64 a) (b := .int .i64 b) (c := .int .i64 a) (d := .int .i64 b) (by omega))
    have hC9 := (((hC8.set (p := ⟨w.heap.size + 1, 0, none⟩) (.inr rfl) (.int .i64 a)).set (p := ⟨w.heap.size + 1, 1, none⟩) (.inr rfl) (.int .i64 b)).set (p := ⟨w.heap.size + 1, 2, none⟩) (.inr rfl) (.int .i64 a)).set (p := ⟨w.heap.size + 1, 3, none⟩) (.inr rfl) (.int .i64 b)
    have X9 := Lib.hid ((((X8.out.setNew (p := ⟨w.heap.size + 1, 0, none⟩) (by simp) (.int .i64 a)).setNew (p := ⟨w.heap.size + 1, 1, none⟩) (by simp) (.int .i64 b)).setNew (p := ⟨w.heap.size + 1, 2, none⟩) (by simp) (.int .i64 a)).setNew (p := ⟨w.heap.size + 1, 3, none⟩) (by simp) (.int .i64 b))
    have O9 := Lib.hid (show OwnM ((((w8.setCell ⟨w.heap.size + 1, 0, none⟩ (.int .i64 a)).setCell ⟨w.heap.size + 1, 1, none⟩ (.int .i64 b)).setCell ⟨w.heap.size + 1, 2, none⟩ (.int .i64 a)).setCell ⟨w.heap.size + 1, 3, none⟩ (.int .i64 b)) w.heap.size (.slice ao n mc) ms from row_mono (OwnM.chg O8.out (((((Chg.refl _ _).setCell _ _).setCell _ _).setCell _ _).setCell _ _) (O8.out.block (by omega))) (by omega))
    clear R8 Q8 X8 O8 hC8
    refine wpAnyH_ready (rs := [10]) (by kernel_rfl) (by simp) ?_
    refine (AllReadyH.cons rfl (fun K hK => ?_) AllReadyH.nil)
    go_simp
    refine hK.out _ _ hC9 (fun hHeld => ?_)
    clear hK K
    (try simp only [Act.put, List.setIfInBounds_toArray, List.set_cons_zero, List.set_cons_succ])
    refine wpAnyH_done (by kernel_rfl) ?_ _
    clear hC9 hHeld j0 j1 j2 j3 h0 h1 h2 h3
    generalize (((w8.setCell ⟨w.heap.size + 1, 0, none⟩ (.int .i64 a)).setCell ⟨w.heap.size + 1, 1, none⟩ (.int .i64 b)).setCell ⟨w.heap.size + 1, 2, none⟩ (.int .i64 a)).setCell ⟨w.heap.size + 1, 3, none⟩ (.int .i64 b) = w9 at *
    clear R Q hx HO C1 D1 S6 hc7
    go_wp2
    exact dsh_done R9.out Q9.out (by rw [← Hn.out]; exact h9) hFit.out O9.out X9.out rfl rfl rfl
  · have t0 : (r == 0) = false := beq_eq_false_iff_ne.2 h0
    go_upto_region 6 with fail
    have zF := Nat.le_refl w6.heap.size
    clear d0 d1 d2 d3 f0 f1 f2 f3 h0 t0
    generalize w6 = F at *
    obtain ⟨⟨d0, d1, d2, d3⟩, _⟩ := D1.out.four
    obtain ⟨⟨c0, c1, c2, c3, c4, c5, c6, c7, c8⟩, _⟩ := Box.nine C1.out
    refine wp_region_held_drew (S := fun w' => Chg3 B w.heap.size (w.heap.size + 1) F w') (by kernel_rfl) (by (try dsimp only); exact Chg3.of (Chg.refl B F).drew) (fun hHeld => ?_)
    have eD0 : ∀ w', Chg3 B w.heap.size (w.heap.size + 1) F w' → w'.cell? ⟨w4.heap.size, 0, none⟩ = _ := fun w' h => h.cellOf (by simp; omega) (by simp; omega) (by simp; omega) d0
    have eD1 : ∀ w', Chg3 B w.heap.size (w.heap.size + 1) F w' → w'.cell? ⟨w4.heap.size, 1, none⟩ = _ := fun w' h => h.cellOf (by simp; omega) (by simp; omega) (by simp; omega) d1
    have eD2 : ∀ w', Chg3 B w.heap.size (w.heap.size + 1) F w' → w'.cell? ⟨w4.heap.size, 2, none⟩ = _ := fun w' h => h.cellOf (by simp; omega) (by simp; omega) (by simp; omega) d2
    have eD3 : ∀ w', Chg3 B w.heap.size (w.heap.size + 1) F w' → w'.cell? ⟨w4.heap.size, 3, none⟩ = _ := fun w' h => h.cellOf (by simp; omega) (by simp; omega) (by simp; omega) d3
    have eC0 : ∀ w', Chg3 B w.heap.size (w.heap.size + 1) F w' → w'.cell? ⟨C, 0, none⟩ = _ := fun w' h => h.cellOf (by simp; omega) (by simp; omega) (by simp; omega) c0
    have eC1 : ∀ w', Chg3 B w.heap.size (w.heap.size + 1) F w' → w'.cell? ⟨C, 1, none⟩ = _ := fun w' h => h.cellOf (by simp; omega) (by simp; omega) (by simp; omega) c1
    have eC2 : ∀ w', Chg3 B w.heap.size (w.heap.size + 1) F w' → w'.cell? ⟨C, 2, none⟩ = _ := fun w' h => h.cellOf (by simp; omega) (by simp; omega) (by simp; omega) c2
    have eC3 : ∀ w', Chg3 B w.heap.size (w.heap.size + 1) F w' → w'.cell? ⟨C, 3, none⟩ = _ := fun w' h => h.cellOf (by simp; omega) (by simp; omega) (by simp; omega) c3
    have eC4 : ∀ w', Chg3 B w.heap.size (w.heap.size + 1) F w' → w'.cell? ⟨C, 4, none⟩ = _ := fun w' h => h.cellOf (by simp; omega) (by simp; omega) (by simp; omega) c4
    have eC5 : ∀ w', Chg3 B w.heap.size (w.heap.size + 1) F w' → w'.cell? ⟨C, 5, none⟩ = _ := fun w' h => h.cellOf (by simp; omega) (by simp; omega) (by simp; omega) c5
    have eC6 : ∀ w', Chg3 B w.heap.size (w.heap.size + 1) F w' → w'.cell? ⟨C, 6, none⟩ = _ := fun w' h => h.cellOf (by simp; omega) (by simp; omega) (by simp; omega) c6
    have eC7 : ∀ w', Chg3 B w.heap.size (w.heap.size + 1) F w' → w'.cell? ⟨C, 7, none⟩ = _ := fun w' h => h.cellOf (by simp; omega) (by simp; omega) (by simp; omega) c7
    have eC8 : ∀ w', Chg3 B w.heap.size (w.heap.size + 1) F w' → w'.cell? ⟨C, 8, none⟩ = _ := fun w' h => h.cellOf (by simp; omega) (by simp; omega) (by simp; omega) c8
    clear d0 d1 d2 d3 c0 c1 c2 c3 c4 c5 c6 c7 c8
    (refine Ord.takeH 0 20 (v := ?_) rfl rfl (by kernel_rfl) (by kernel_rfl) (by kernel_rfl) (fun _ _ _ h => h) (by rfl) ?_ (by assumption) ?_; rotate_left; (intro w hSw; (try dsimp only at hSw); go_simp; (first | done | with_reducible rfl)); (try simp only [Act.put, List.setIfInBounds_toArray, List.set_cons_zero, List.set_cons_succ])); (refine Ord.takeH 1 21 (v := ?_) rfl rfl (by kernel_rfl) (by kernel_rfl) (by kernel_rfl) (fun _ _ _ h => h) (by rfl) ?_ (by assumption) ?_; rotate_left; (intro w hSw; (try dsimp only at hSw); go_simp; (first | done | with_reducible rfl)); (try simp only [Act.put, List.setIfInBounds_toArray, List.set_cons_zero, List.set_cons_succ])); (refine Ord.takeH 2 22 (v := ?_) rfl rfl (by kernel_rfl) (by kernel_rfl) (by kernel_rfl) (fun _ _ _ h => h) (by rfl) ?_ (by assumption) ?_; rotate_left; (intro w hSw; (try dsimp only at hSw); go_simp; (first | done | with_reducible rfl)); (try simp only [Act.put, List.setIfInBounds_toArray, List.set_cons_zero, List.set_cons_succ])); (refine Ord.takeH 3 23 (v := ?_) rfl rfl (by kernel_rfl) (by kernel_rfl) (by kernel_rfl) (fun _ _ _ h => h) (by rfl) ?_ (by assumption) ?_; rotate_left; (intro w hSw; (try dsimp only at hSw); go_simp; (first | done | with_reducible rfl)); (try simp only [Act.put, List.setIfInBounds_toArray, List.set_cons_zero, List.set_cons_succ])); (refine Ord.takeH 4 24 (v := ?_) rfl rfl (by kernel_rfl) (by kernel_rfl) (by kernel_rfl) (fun _ _ _ h => h) (by rfl) ?_ (by assumption) ?_; rotate_left; (intro w hSw; (try dsimp only at hSw); go_simp; (first | done | with_reducible rfl)); (try simp only [Act.put, List.setIfInBounds_toArray, List.set_cons_zero, List.set_cons_succ])); (refine Ord.takeH 5 25 (v := ?_) rfl rfl (by kernel_rfl) (by kernel_rfl) (by kernel_rfl) (fun _ _ _ h => h) (by rfl) ?_ (by assumption) ?_; rotate_left; (intro w hSw; (try dsimp only at hSw); go_simp; (first | done | with_reducible rfl)); (try simp only [Act.put, List.setIfInBounds_toArray, List.set_cons_zero, List.set_cons_succ])); (refine Ord.takeH 7 27 (v := ?_) rfl rfl (by kernel_rfl) (by kernel_rfl) (by kernel_rfl) (fun _ _ _ h => h) (by rfl) ?_ (by assumption) ?_; rotate_left; (intro w hSw; (try dsimp only at hSw); go_simp; (first | done | with_reducible rfl)); (try simp only [Act.put, List.setIfInBounds_toArray, List.set_cons_zero, List.set_cons_succ]))
    clear eD0 eD1 eD2 eD3 eC0 eC1 eC2 eC3 eC4 eC5 eC6 eC7 eC8
    refine wpAnyH_ready (rs := [6]) (by kernel_rfl) (by simp) ?_
    refine (AllReadyH.cons rfl (fun K hK => ?_) AllReadyH.nil)
    go_simp
    go_at_call 32
    refine (next_pos B _ _ S6.out.drew (by omega)).mono ?_
    rintro e w7 ⟨q7, rfl, q70, q71, hs7, hc⟩
    go_wp2_with fail
    have z7 := hc.size
    have hc7 : Chg B F w7 := (Chg.refl B F).drew.trans hc
    have hC7 := Chg3.of (n := w.heap.size) (m := w.heap.size + 1) hc7
    refine hK.out _ _ hC7 (fun hHeld => ?_)
    clear hK K
    (try simp only [Act.put, List.setIfInBounds_toArray, List.set_cons_zero, List.set_cons_succ])
    have R7 := R.out.chg hc7 (by omega)
    have Q7 := Q.out.chg hc7 (by omega)
    have X7 := Lib.hid (hc7.ext hx.out (by omega))
    have O7 := Lib.hid (OwnM.chg HO.out hc7 (HO.out.block (by omega)))
    have R8 := Lib.hid (Box.put9 R7 (.int .i64 l.a) (.int .i64 l.b) (.int .i64 l.c) (.int .i64 l.d) (.int .i64 k.a) (.int .i64 k.b) (.int .i64 k.c) (.int .i64 k.d) (.slice ao n mc))
    have Q8 := Box.put9_away Q7 (n := w.heap.size) (by omega) (.int .i64 l.a) (.int .i64 l.b) (.int .i64 l.c) (.int .i64 l.d) (.int .i64 k.a) (.int .i64 k.b) (.int .i64 k.c) (.int .i64 k.d) (.slice ao n mc)
    have hC8 := hC7.put9 (.int .i64 l.a) (.int .i64 l.b) (.int .i64 l.c) (.int .i64 l.d) (.int .i64 k.a) (.int .i64 k.b) (.int .i64 k.c) (.int .i64 k.d) (.slice ao n mc)
    have X8 := Lib.hid (Ext.put9 X7.out (n := w.heap.size) (Nat.le_refl _) (.int .i64 l.a) (.int .i64 l.b) (.int .i64 l.c) (.int .i64 l.d) (.int .i64 k.a) (.int .i64 k.b) (.int .i64 k.c) (.int .i64 k.d) (.slice ao n mc))
    have O8 := Lib.hid (OwnM.chg O7.out (Chg.put9 (n := w.heap.size) (.int .i64 l.a) (.int .i64 l.b) (.int .i64 l.c) (.int .i64 l.d) (.int .i64 k.a) (.int .i64 k.b) (.int .i64 k.c) (.int .i64 k.d) (.slice ao n mc)) (O7.out.block (by omega)))
    obtain ⟨⟨r0, r1, r2, r3, r4, r5, r6, r7, r8⟩, g0, g1, g2, g3, g4, g5, g6, g7, g8⟩ := Box.nine R7
    clear R7 Q7 X7 O7 hC7 hc hs7
    refine wpAnyH_ready (rs := [8]) (by kernel_rfl) (by simp) ?_
    refine (AllReadyH.cons rfl (fun K hK => ?_) AllReadyH.nil)
    go_simp
    refine hK.out _ _ hC8 (fun hHeld => ?_)
    clear hK K
    (try simp only [Act.put, List.setIfInBounds_toArray, List.set_cons_zero, List.set_cons_succ])
    clear r0 r1 r2 r3 r4 r5 r6 r7 r8 g0 g1 g2 g3 g4 g5 g6 g7 g8
    unfold Crs.put9 at R8 Q8 hC8 X8 O8
    generalize (((((((((w7.setCell ⟨w.heap.size, 0, none⟩ (.int .i64 l.a)).setCell ⟨w.heap.size, 1, none⟩ (.int .i64 l.b)).setCell ⟨w.heap.size, 2, none⟩ (.int .i64 l.c)).setCell ⟨w.heap.size, 3, none⟩ (.int .i64 l.d)).setCell ⟨w.heap.size, 4, none⟩ (.int .i64 k.a)).setCell ⟨w.heap.size, 5, none⟩ (.int .i64 k.b)).setCell ⟨w.heap.size, 6, none⟩ (.int .i64 k.c)).setCell ⟨w.heap.size, 7, none⟩ (.int .i64 k.d)).setCell ⟨w.heap.size, 8, none⟩ (.slice ao n mc)) = w8 at *
    refine wpAnyH_ready (rs := [9]) (by kernel_rfl) (by simp) ?_
    refine (AllReadyH.cons rfl (fun K hK => ?_) AllReadyH.nil)
    go_simp
    refine hK.out _ _ hC8 (fun hHeld => ?_)
    clear hK K
    (try simp only [Act.put, List.setIfInBounds_toArray, List.set_cons_zero, List.set_cons_succ])
    obtain ⟨⟨j0, j1, j2, j3⟩, h0, h1, h2, h3⟩ := Q8.four
    have Q9 := Lib.hid (Box.set4 Q8 (a := .int .i64 a) (b := .int .i64 b) (c := .int .i64 c) (d := .int .i64 d))
    have R9 := Lib.hid (Box.away4 R8.out (m := w.heap.size + 1) (i := 0) (j := 1) (k := 2) (l := 3) (a := .int .i64 a) (b := .int .i64 b) (c := .int .i64 c) (d := .int .i64 d) (by omega))
    have hC9 := (((hC8.set (p := ⟨w.heap.size + 1, 0, none⟩) (.inr rfl) (.int .i64 a)).set (p := ⟨w.heap.size + 1, 1, none⟩) (.inr rfl) (.int .i64 b)).set (p := ⟨w.heap.size + 1, 2, none⟩) (.inr rfl) (.int .i64 c)).set (p := ⟨w.heap.size + 1, 3, none⟩) (.inr rfl) (.int .i64 d)
    have X9 := Lib.hid ((((X8.out.setNew (p := ⟨w.heap.size + 1, 0, none⟩) (by simp) (.int .i64 a)).setNew (p := ⟨w.heap.size + 1, 1, none⟩) (by simp) (.int .i64 b)).setNew (p := ⟨w.heap.size + 1, 2, none⟩) (by simp) (.int .i64 c)).setNew (p := ⟨w.heap.size + 1, 3, none⟩) (by simp) (.int .i64 d))
    have O9 := Lib.hid (show OwnM ((((w8.setCell ⟨w.heap.size + 1, 0, none⟩ (.int .i64 a)).setCell ⟨w.heap.size + 1, 1, none⟩ (.int .i64 b)).setCell ⟨w.heap.size + 1, 2, none⟩ (.int .i64 c)).setCell ⟨w.heap.size + 1, 3, none⟩ (.int .i64 d)) w.heap.size (.slice ao n mc) ms from row_mono (OwnM.chg O8.out (((((Chg.refl _ _).setCell _ _).setCell _ _).setCell _ _).setCell _ _) (O8.out.block (by omega))) (by omega))
    clear R8 Q8 X8 O8 hC8
    refine wpAnyH_ready (rs := [10]) (by kernel_rfl) (by simp) ?_
    refine (AllReadyH.cons rfl (fun K hK => ?_) AllReadyH.nil)
    go_simp
    refine hK.out _ _ hC9 (fun hHeld => ?_)
    clear hK K
    (try simp only [Act.put, List.setIfInBounds_toArray, List.set_cons_zero, List.set_cons_succ])
    refine wpAnyH_done (by kernel_rfl) ?_ _
    clear hC9 hHeld j0 j1 j2 j3 h0 h1 h2 h3
    generalize (((w8.setCell ⟨w.heap.size + 1, 0, none⟩ (.int .i64 a)).setCell ⟨w.heap.size + 1, 1, none⟩ (.int .i64 b)).setCell ⟨w.heap.size + 1, 2, none⟩ (.int .i64 c)).setCell ⟨w.heap.size + 1, 3, none⟩ (.int .i64 d) = w9 at *
    clear R Q hx HO C1 D1 S6 hc7
    go_wp2
    exact dsh_done R9.out Q9.out (by rw [← Hn.out]; exact h9) hFit.out O9.out X9.out rfl rfl rfl

end Go.Proofs.Ytiofplgbbbdkfaa.Crs
