import Derived.Test.YtmlojndkpnhalaaGreatDrawSa
import Derived.Test.YtmlojndkpnhalaaGreatMDrawO
namespace Go.Proofs.YtmlojndkpnhalaaGreat.Crs
open Go.ChangeShapes Go.WideShapes Go.ChangeAt Go.RowKit
open Go.Proofs.YtmlojndkpnhalaaGreat.Num Go.Proofs.YtmlojndkpnhalaaGreat.Kit Go.Proofs.YtmlojndkpnhalaaGreat.Pts Go.Proofs.YtmlojndkpnhalaaGreat.Seg Go.Proofs.YtmlojndkpnhalaaGreat.Draw
open Go.Proofs.YtmlojndkpnhalaaGreat.Trk (F3 Fxs Tr AnyT IntRow drawAnyT_any drawTime_any)
set_option linter.unusedVariables false
set_option linter.unusedSimpArgs false
structure ChgL (ns : List Nat) (w w' : World) : Prop where
  os : w'.os = w.os
  tape : w'.tape = w.tape
  output : w'.output = w.output
  size : w.heap.size ≤ w'.heap.size
  block : ∀ k, k < w.heap.size → k ∉ ns → w'.heap[k]? = w.heap[k]?
theorem ChgL.ofExt {ns : List Nat} {w w' : World} (h : Ext w w') : ChgL ns w w' := ⟨Below.os h, Below.tape h, Below.output h, Below.size h, fun k hk _ => Below.block h k hk⟩
theorem ChgL.ofChg {ns : List Nat} {B : Nat} {w w' : World} (h : Chg B w w') (hB : B ∈ ns) : ChgL ns w w' := ⟨h.os, h.tape, h.output, h.size, fun k hk hn => h.block k hk (fun e => hn (e ▸ hB))⟩
theorem ChgL.trans {ns : List Nat} {a b c : World} (h : ChgL ns a b) (k : ChgL ns b c) : ChgL ns a c :=
  ⟨k.os.trans h.os, k.tape.trans h.tape, k.output.trans h.output, Nat.le_trans h.size k.size, fun i hi hn => (k.block i (Nat.lt_of_lt_of_le hi h.size) hn).trans (h.block i hi hn)⟩
theorem ChgL.set {ns : List Nat} {w w' : World} {m : Nat} (h : ChgL ns w w') (hm : m ∈ ns) (o : Nat) (u : Value) : ChgL ns w (w'.setCell ⟨m, o, none⟩ u) :=
  ⟨h.os, h.tape, h.output, Nat.le_trans h.size (by simp [World.setCell]), fun k hk hn => (Below.heap_setCell w' ⟨m, o, none⟩ u k (fun e => hn (by simp at e; rw [e]; exact hm))).trans (h.block k hk hn)⟩
theorem ChgL.put9 {ns : List Nat} {w w' : World} {n : Nat} (H : ChgL ns w w') (hm : n ∈ ns) (a b c d e f g h i : Value) : ChgL ns w (Crs.put9 w' n a b c d e f g h i) :=
  ((((((((H.set hm 0 a).set hm 1 b).set hm 2 c).set hm 3 d).set hm 4 e).set hm 5 f).set hm 6 g).set hm 7 h).set hm 8 i
theorem ChgL.cellOf {ns : List Nat} {w w' : World} (h : ChgL ns w w') {a : Addr} {v : Value} (h1 : a.block ∉ ns) (hc : w.cell? a = some v) : w'.cell? a = some v := by
  rw [World.cell?_of_block (w := w) (h.block a.block (World.block_lt_of_cell? w _ hc) h1)]; exact hc
theorem ChgL.thawOf {ns : List Nat} {w w' : World} (h : ChgL ns w w') {a : Addr} {v : Value} (h1 : a.block ∉ ns) (hc : w.cell? a = some v) (hf : w.frozen? a = false) : w'.frozen? a = false := by
  rw [World.frozen?_of_block (w := w) (h.block a.block (World.block_lt_of_cell? w _ hc) h1)]; exact hf
def ACT (B : Nat) (w : World) (e : Ending) (w' : World) : Prop :=
  ∃ (l k : L4) (v : Value) (ms : List M5) (g cap n : Nat), e = .returned (.tuple #[CV l k v, Tr (.slice (some ⟨g, 0, none⟩) n cap)]) ∧ ms.length ≤ 9 ∧ Fit ms ∧ OwnM w' w.heap.size v ms ∧ 1 ≤ n ∧ n ≤ 41 ∧ n ≤ cap ∧ w.heap.size ≤ g ∧ IntRow w' g n ∧ Src w' B ∧ Chg B w w'
theorem ld_done {B x g cap n : Nat} {w F : World} {tmps : Array Value} {l k : L4} {v : Value} {ms : List M5} (R : Box F x (cellsC l k v)) (P : Box F (x + 1) [.slice (some ⟨g, 0, none⟩) n cap]) (h9 : ms.length ≤ 9) (hf : Fit ms) (hO : OwnM F w.heap.size v ms)
    (h1 : 1 ≤ n) (h41 : n ≤ 41) (hc : n ≤ cap) (hg : w.heap.size ≤ g) (hI : IntRow F g n) (hS : SC w B F) (ha : tmps[2]? = some (.pointer (some ⟨x, 0, none⟩))) (hb : tmps[3]? = some (.pointer (some ⟨x + 1, 0, none⟩))) :
    bodyPost Tryz.prog Tryz.f58 (ACT B w) Exit.ret ⟨tmps, []⟩ F := by
  obtain ⟨⟨g0, g1, g2, g3, g4, g5, g6, g7, g8⟩, _⟩ := Box.nine R
  have p0 := (P 0 _ rfl).1
  exact bodyPost_ret (v := .tuple #[CV l k v, Tr (.slice (some ⟨g, 0, none⟩) n cap)]) (by simp [results, Tryz.results58, go_sem, ha, hb, p0, g0, g1, g2, g3, g4, g5, g6, g7, g8]) rfl ⟨l, k, v, ms, g, cap, n, rfl, h9, hf, hO, h1, h41, hc, hg, hI, hS.2, hS.1⟩
def CTI (w : World) (e : Ending) (w' : World) : Prop :=
  ∃ (l k : L4) (v : Value) (ms : List M5) (g cap n : Nat) (p : Int), e = .returned (.tuple #[CV l k v, Tr (.slice (some ⟨g, 0, none⟩) n cap), .int .i64 p]) ∧ ms.length ≤ 9 ∧ Fit ms ∧ OwnM w' w.heap.size v ms ∧ n ≤ 41 ∧ n ≤ cap ∧ IntRow w' g n ∧ Ext w w'
theorem cti_done {x g cap n : Nat} {w F : World} {tmps : Array Value} {l k : L4} {v : Value} {ms : List M5} {p : Int} (R : Box F x (cellsC l k v)) (P : Box F (x + 1) [.slice (some ⟨g, 0, none⟩) n cap]) (h9 : ms.length ≤ 9) (hf : Fit ms) (hO : OwnM F w.heap.size v ms)
    (h41 : n ≤ 41) (hc : n ≤ cap) (hI : IntRow F g n) (hX : Ext w F) (ha : tmps[2]? = some (.pointer (some ⟨x, 0, none⟩))) (hb : tmps[3]? = some (.pointer (some ⟨x + 1, 0, none⟩))) (hp : tmps[4]? = some (.int .i64 p)) :
    bodyPost Tryz.prog Tryz.f12 (CTI w) Exit.ret ⟨tmps, []⟩ F := by
  obtain ⟨⟨g0, g1, g2, g3, g4, g5, g6, g7, g8⟩, _⟩ := Box.nine R
  have p0 := (P 0 _ rfl).1
  exact bodyPost_ret (v := .tuple #[CV l k v, Tr (.slice (some ⟨g, 0, none⟩) n cap), .int .i64 p]) (by simp [results, Tryz.results12, go_sem, ha, hb, hp, p0, g0, g1, g2, g3, g4, g5, g6, g7, g8]) rfl ⟨l, k, v, ms, g, cap, n, p, rfl, h9, hf, hO, h41, hc, hI, hX⟩
set_option maxRecDepth 100000 in
set_option maxHeartbeats 16000000 in
theorem l06Draw_any (B : Nat) (w : World) (hs : Src w B) : Calls Tryz.prog 58 #[.pointer (some ⟨B, 0, none⟩)] w (ACT B w) := by
  have hl := hs.lt
  obtain ⟨W0, hW0⟩ : ∃ W0, W0 = (w.alloc (.cells (cellsC zeroL zeroL (.slice none 0 0)).toArray 30)).alloc (.cells #[.slice none 0 0] 33) := ⟨_, rfl⟩
  have hX : Ext w W0 := hW0 ▸ ((Ext.refl w).alloc _).alloc _
  have hz0 : W0.heap.size = w.heap.size + 1 + 1 := by rw [hW0]; simp
  have RB := Lib.hid (show Box W0 w.heap.size (cellsC zeroL zeroL (.slice none 0 0)) by rw [hW0]; exact (Box.new rfl).alloc _)
  have RB1 := Lib.hid (show Box W0 (w.heap.size + 1) [.slice none 0 0] by rw [hW0]; exact Box.new (vs := [.slice none 0 0]) (by simp))
  have S0 := Lib.hid (show SC w B W0 from ⟨Chg.of_ext hX, hs.ext hX⟩)
  go_enter Tryz.func58, Tryz.ntmps58
  go_wp2_with fail
  rw [← hW0]
  clear hW0 hX hs
  refine (drawCo_any B _ S0.out.2).mono ?_
  rintro e w1 ⟨l, k, v, ms, rfl, h1m, h4m, hFit, hO, hs1, hc1⟩
  obtain ⟨ao, mc, hv, hM⟩ := hO.mks ⟨by unfold maxLen; omega, hFit⟩
  subst hv
  have z1 := hc1.size
  replace RB := Lib.hid ((RB.out.chg hc1 (by omega)).alloc (.cells (cellsC l k (.slice ao ms.length mc)).toArray 30))
  replace RB1 := Lib.hid ((RB1.out.chg hc1 (by omega)).alloc (.cells (cellsC l k (.slice ao ms.length mc)).toArray 30))
  have OO := Lib.hid (OwnM.ext hO ((Ext.refl w1).alloc (.cells (cellsC l k (.slice ao ms.length mc)).toArray 30)))
  have MM := Lib.hid (Mks.ext hM ((Ext.refl w1).alloc (.cells (cellsC l k (.slice ao ms.length mc)).toArray 30)))
  have NB := Lib.hid (show ∀ ad, ao = some ad → ad.block ≠ B from fun ad e => by
    subst e
    have h := hO.block (B := B) (by omega)
    intro hb; apply h; simp [Value.ownBlock]
    rcases hO.cases with ⟨hv, -⟩ | ⟨g, cap, hv, -, -, -⟩
    · simp at hv
    · simp at hv; rw [hv.1] at hb ⊢; simp at hb; simp [hb])
  have NC := Lib.hid (fun (q : Nat) (e : (Value.slice ao ms.length mc).ownBlock = some q) => (World.ownsRow.lt hO q e))
  have CB := Lib.hid (Box.new (w := w1) (n := w1.heap.size) (vs := cellsC l k (.slice ao ms.length mc)) (t := 30) rfl)
  have SS := Lib.hid ((S0.out.trans ⟨hc1, hs1⟩).alloc (.cells (cellsC l k (.slice ao ms.length mc)).toArray 30))
  have HN := Lib.hid (show ms.length ≤ 9 by omega)
  have FT := Lib.hid hFit
  clear hO hM hFit hc1 hs1 S0 h1m h4m
  obtain ⟨⟨c0, c1, c2, c3, c4, c5, c6, c7, c8⟩, _⟩ := Box.nine CB.out
  obtain ⟨W1, hW1⟩ : ∃ W1, W1 = w1.alloc (.cells (cellsC l k (.slice ao ms.length mc)).toArray 30) := ⟨_, rfl⟩
  have zW1 : W1.heap.size = w1.heap.size + 1 := by rw [hW1]; simp
  go_upto_region 2 with fail
  have eA : w1.alloc (.cells (cellsC l k (.slice ao ms.length mc)).toArray 30) = W1 := hW1.symm
  simp only [eA] at *
  clear hW1 eA
  go_wp2_with fail
  refine (drawSail_any B l k ao mc ms _ SS.out.2 MM.out NB.out).mono ?_
  rintro e w2 ⟨g, tc, n, rfl, H1, H41, HC, hg, hI, hs2, hc2⟩
  have z2 := hc2.size
  have hgl : g < w2.heap.size := World.block_lt_of_cell? w2 _ (hI 0 (by omega)).1.choose_spec
  replace RB := Lib.hid ((RB.out.chg hc2 (by omega)).alloc (.cells #[.slice (some ⟨g, 0, none⟩) n tc] 33))
  replace RB1 := Lib.hid ((RB1.out.chg hc2 (by omega)).alloc (.cells #[.slice (some ⟨g, 0, none⟩) n tc] 33))
  replace OO := Lib.hid ((OO.out.chg hc2 (OO.out.block (by omega))).ext ((Ext.refl w2).alloc (.cells #[.slice (some ⟨g, 0, none⟩) n tc] 33)))
  replace CB := Lib.hid ((CB.out.chg hc2 (by omega)).alloc (.cells #[.slice (some ⟨g, 0, none⟩) n tc] 33))
  have TB := Lib.hid (Box.new (w := w2) (n := w2.heap.size) (vs := [.slice (some ⟨g, 0, none⟩) n tc]) (t := 33) rfl)
  replace SS := Lib.hid ((SS.out.trans ⟨hc2, hs2⟩).alloc (.cells #[.slice (some ⟨g, 0, none⟩) n tc] 33))
  have II := Lib.hid (hI.ext ((Ext.refl w2).alloc (.cells #[.slice (some ⟨g, 0, none⟩) n tc] 33)))
  clear hI hs2 hc2 MM c0 c1 c2 c3 c4 c5 c6 c7 c8
  obtain ⟨W2, hW2⟩ : ∃ W2, W2 = w2.alloc (.cells #[.slice (some ⟨g, 0, none⟩) n tc] 33) := ⟨_, rfl⟩
  have zW2 : W2.heap.size = w2.heap.size + 1 := by rw [hW2]; simp
  go_upto_region 3 with fail
  have eA : w2.alloc (.cells #[.slice (some ⟨g, 0, none⟩) n tc] 33) = W2 := hW2.symm
  simp only [eA] at *
  clear hW2 eA
  go_wp2_with fail
  refine (next_pos B _ _ SS.out.2 (by omega)).mono ?_
  rintro e w3 ⟨q, rfl, q0, q1, hs3, hc3⟩
  have z3 := hc3.size
  replace RB := Lib.hid (RB.out.chg hc3 (by omega))
  replace RB1 := Lib.hid (RB1.out.chg hc3 (by omega))
  replace OO := Lib.hid (OO.out.chg hc3 (OO.out.block (by omega)))
  replace CB := Lib.hid (CB.out.chg hc3 (by omega))
  replace TB := Lib.hid (TB.out.chg hc3 (by omega))
  replace II := Lib.hid (II.out.chg hc3 (by omega))
  replace SS := Lib.hid (SS.out.trans ⟨hc3, hs3⟩)
  have NO : ∀ q, (Value.slice ao ms.length mc).ownBlock = some q → W0.heap.size ≤ q ∧ q < w1.heap.size := NC.out
  clear hc3 hs3 NB NC
  by_cases h0 : q = 0
  · have B0 : (q == 0) = true := by simpa using h0
    clear h0
    go_wp2_with fail
    refine (drawAnyT_any B _ SS.out.2).mono ?_
    rintro e w4 ⟨g', tc', n', rfl, H1', H41', HC', hg', hI', hs4, hc4⟩
    have z4 := hc4.size
    have hgl' : g' < w4.heap.size := World.block_lt_of_cell? w4 _ (hI' 0 (by omega)).1.choose_spec
    replace RB := Lib.hid ((RB.out.chg hc4 (by omega)).away (p := ⟨w2.heap.size, 0, none⟩) (show w2.heap.size ≠ _ by omega) (.slice (some ⟨g', 0, none⟩) n' tc'))
    replace RB1 := Lib.hid ((RB1.out.chg hc4 (by omega)).away (p := ⟨w2.heap.size, 0, none⟩) (show w2.heap.size ≠ _ by omega) (.slice (some ⟨g', 0, none⟩) n' tc'))
    replace OO := Lib.hid ((OO.out.chg hc4 (OO.out.block (by omega))).chg ((Chg.refl w2.heap.size w4).setCell 0 (.slice (some ⟨g', 0, none⟩) n' tc')) (fun e => by have := NO _ e; omega))
    replace CB := Lib.hid ((CB.out.chg hc4 (by omega)).away (p := ⟨w2.heap.size, 0, none⟩) (show w2.heap.size ≠ _ by omega) (.slice (some ⟨g', 0, none⟩) n' tc'))
    have TB4 := TB.out.chg hc4 (by omega)
    replace TB := Lib.hid (TB4.set 0 (by simp) (.slice (some ⟨g', 0, none⟩) n' tc'))
    replace II := Lib.hid (hI'.chg ((Chg.refl w2.heap.size w4).setCell 0 (.slice (some ⟨g', 0, none⟩) n' tc')) (by omega))
    replace SS := Lib.hid ((SS.out.trans ⟨hc4, hs4⟩).set (p := ⟨w2.heap.size, 0, none⟩) (show B < w2.heap.size by omega) (show w.heap.size ≤ w2.heap.size by omega) (.slice (some ⟨g', 0, none⟩) n' tc'))
    obtain ⟨r0, r1⟩ := TB4 0 _ rfl
    replace H1 := H1'
    replace H41 := H41'
    replace HC := HC'
    clear hI' hs4 hc4 TB4 NO
    go_upto_region 8 with fail
    clear r0 r1
    generalize w4.setCell ⟨w2.heap.size, 0, none⟩ (.slice (some ⟨g', 0, none⟩) n' tc') = wn at *
    obtain ⟨⟨c0, c1, c2, c3, c4, c5, c6, c7, c8⟩, _⟩ := Box.nine CB.out
    have ct := (TB.out 0 _ rfl).1
    refine wp_region_held_drew (S := fun w' => ChgL [w.heap.size, w.heap.size + 1] wn w') (by kernel_rfl) (by (try dsimp only); exact ChgL.ofExt (Ext.refl wn).drew) (fun hHeld => ?_)
    have eC0 : ∀ w', ChgL [w.heap.size, w.heap.size + 1] wn w' → w'.cell? ⟨w1.heap.size, 0, none⟩ = _ := fun w' h => h.cellOf (by simp; omega) c0
    have eC1 : ∀ w', ChgL [w.heap.size, w.heap.size + 1] wn w' → w'.cell? ⟨w1.heap.size, 1, none⟩ = _ := fun w' h => h.cellOf (by simp; omega) c1
    have eC2 : ∀ w', ChgL [w.heap.size, w.heap.size + 1] wn w' → w'.cell? ⟨w1.heap.size, 2, none⟩ = _ := fun w' h => h.cellOf (by simp; omega) c2
    have eC3 : ∀ w', ChgL [w.heap.size, w.heap.size + 1] wn w' → w'.cell? ⟨w1.heap.size, 3, none⟩ = _ := fun w' h => h.cellOf (by simp; omega) c3
    have eC4 : ∀ w', ChgL [w.heap.size, w.heap.size + 1] wn w' → w'.cell? ⟨w1.heap.size, 4, none⟩ = _ := fun w' h => h.cellOf (by simp; omega) c4
    have eC5 : ∀ w', ChgL [w.heap.size, w.heap.size + 1] wn w' → w'.cell? ⟨w1.heap.size, 5, none⟩ = _ := fun w' h => h.cellOf (by simp; omega) c5
    have eC6 : ∀ w', ChgL [w.heap.size, w.heap.size + 1] wn w' → w'.cell? ⟨w1.heap.size, 6, none⟩ = _ := fun w' h => h.cellOf (by simp; omega) c6
    have eC7 : ∀ w', ChgL [w.heap.size, w.heap.size + 1] wn w' → w'.cell? ⟨w1.heap.size, 7, none⟩ = _ := fun w' h => h.cellOf (by simp; omega) c7
    have eC8 : ∀ w', ChgL [w.heap.size, w.heap.size + 1] wn w' → w'.cell? ⟨w1.heap.size, 8, none⟩ = _ := fun w' h => h.cellOf (by simp; omega) c8
    have eT : ∀ w', ChgL [w.heap.size, w.heap.size + 1] wn w' → w'.cell? ⟨w2.heap.size, 0, none⟩ = _ := fun w' h => h.cellOf (by simp; omega) ct
    clear c0 c1 c2 c3 c4 c5 c6 c7 c8 ct CB TB
    refine Ord.K 0 21 ?_; refine Ord.K 1 22 ?_
    clear eC0 eC1 eC2 eC3 eC4 eC5 eC6 eC7 eC8 eT
    replace RB := Lib.hid (RB.out.ext (Ext.refl wn).drew)
    replace RB1 := Lib.hid (RB1.out.ext (Ext.refl wn).drew)
    replace OO := Lib.hid (OO.out.ext (Ext.refl wn).drew)
    replace II := Lib.hid (II.out.ext (Ext.refl wn).drew)
    replace SS := Lib.hid (SS.out.drew)
    generalize wn.drew = wd at *
    have R7 := RB.out
    have R8 := Lib.hid (Box.put9 R7 (.int .i64 l.a) (.int .i64 l.b) (.int .i64 l.c) (.int .i64 l.d) (.int .i64 k.a) (.int .i64 k.b) (.int .i64 k.c) (.int .i64 k.d) (.slice ao ms.length mc))
    have P8 := Lib.hid (Box.put9_away RB1.out (n := w.heap.size) (by omega) (.int .i64 l.a) (.int .i64 l.b) (.int .i64 l.c) (.int .i64 l.d) (.int .i64 k.a) (.int .i64 k.b) (.int .i64 k.c) (.int .i64 k.d) (.slice ao ms.length mc))
    have hC9 := hHeld.put9 (n := w.heap.size) (by simp) (.int .i64 l.a) (.int .i64 l.b) (.int .i64 l.c) (.int .i64 l.d) (.int .i64 k.a) (.int .i64 k.b) (.int .i64 k.c) (.int .i64 k.d) (.slice ao ms.length mc)
    have S8 := Lib.hid (SC.put9 SS.out (n := w.heap.size) (by omega) (by omega) (.int .i64 l.a) (.int .i64 l.b) (.int .i64 l.c) (.int .i64 l.d) (.int .i64 k.a) (.int .i64 k.b) (.int .i64 k.c) (.int .i64 k.d) (.slice ao ms.length mc))
    have O8 := Lib.hid (OwnM.chg OO.out (Chg.put9 (n := w.heap.size) (.int .i64 l.a) (.int .i64 l.b) (.int .i64 l.c) (.int .i64 l.d) (.int .i64 k.a) (.int .i64 k.b) (.int .i64 k.c) (.int .i64 k.d) (.slice ao ms.length mc)) (OO.out.block (by omega)))
    have I8 := Lib.hid (II.out.chg (Chg.put9 (n := w.heap.size) (.int .i64 l.a) (.int .i64 l.b) (.int .i64 l.c) (.int .i64 l.d) (.int .i64 k.a) (.int .i64 k.b) (.int .i64 k.c) (.int .i64 k.d) (.slice ao ms.length mc)) (by omega))
    obtain ⟨⟨r0, r1, r2, r3, r4, r5, r6, r7, r8⟩, g0, g1, g2, g3, g4, g5, g6, g7, g8⟩ := Box.nine R7
    clear R7 RB RB1 OO II SS
    refine wpAnyH_ready (rs := [2]) (by kernel_rfl) (by simp) ?_
    refine (AllReadyH.cons rfl (fun K hK => ?_) AllReadyH.nil)
    go_simp
    refine hK.out _ _ hC9 (fun hHeld => ?_)
    clear hK K hC9
    (try simp only [Act.put, Ord.a, Ord.b, Ord.c])
    clear r0 r1 r2 r3 r4 r5 r6 r7 r8 g0 g1 g2 g3 g4 g5 g6 g7 g8
    unfold Crs.put9 at R8 P8 S8 O8 I8
    generalize ((((((((wd.setCell ⟨w.heap.size, 0, none⟩ (.int .i64 l.a)).setCell ⟨w.heap.size, 1, none⟩ (.int .i64 l.b)).setCell ⟨w.heap.size, 2, none⟩ (.int .i64 l.c)).setCell ⟨w.heap.size, 3, none⟩ (.int .i64 l.d)).setCell ⟨w.heap.size, 4, none⟩ (.int .i64 k.a)).setCell ⟨w.heap.size, 5, none⟩ (.int .i64 k.b)).setCell ⟨w.heap.size, 6, none⟩ (.int .i64 k.c)).setCell ⟨w.heap.size, 7, none⟩ (.int .i64 k.d)).setCell ⟨w.heap.size, 8, none⟩ (.slice ao ms.length mc) = w9 at *
    obtain ⟨r0, g0⟩ := P8.out 0 _ rfl
    have R9 := Lib.hid (R8.out.away (p := ⟨w.heap.size + 1, 0, none⟩) (show w.heap.size + 1 ≠ w.heap.size by omega) (.slice (some ⟨g', 0, none⟩) n' tc'))
    have P9 := Lib.hid (P8.out.set 0 (by simp) (.slice (some ⟨g', 0, none⟩) n' tc'))
    have S9 := Lib.hid (SC.set S8.out (p := ⟨w.heap.size + 1, 0, none⟩) (show B < w.heap.size + 1 by omega) (show _ ≤ w.heap.size + 1 by omega) (.slice (some ⟨g', 0, none⟩) n' tc'))
    have O9 := Lib.hid (OwnM.chg O8.out ((Chg.refl (w.heap.size + 1) w9).setCell 0 (.slice (some ⟨g', 0, none⟩) n' tc')) (O8.out.block (by omega)))
    have I9 := Lib.hid (I8.out.chg ((Chg.refl (w.heap.size + 1) w9).setCell 0 (.slice (some ⟨g', 0, none⟩) n' tc')) (by omega))
    have hC9 := hHeld.set (m := w.heap.size + 1) (by simp) 0 (.slice (some ⟨g', 0, none⟩) n' tc')
    clear R8 P8 S8 O8 I8
    refine wpAnyH_ready (rs := [3]) (by kernel_rfl) (by simp) ?_
    refine (AllReadyH.cons rfl (fun K hK => ?_) AllReadyH.nil)
    go_simp
    refine hK.out _ _ hC9 (fun hHeld => ?_)
    clear hK K hC9 r0 g0
    (try simp only [Act.put, Ord.a, Ord.b, Ord.c])
    refine wpAnyH_done (by kernel_rfl) ?_ _
    go_wp2
    exact ld_done R9.out P9.out HN.out FT.out (row_mono O9.out (by omega)) H1 H41 HC (by omega) I9.out S9.out rfl rfl
  · have B0 : (q == 0) = false := by simpa using h0
    by_cases h1 : q = 1
    · have B1 : (q == 1) = true := by simpa using h1
      clear h0 h1
      go_wp2_with fail
      refine (drawCAny_any B _ SS.out.2).mono ?_
      rintro e w4 ⟨l', k', v', ms', rfl, h9', hFit', hO', hs4, hc4⟩
      obtain ⟨ao', mc', hv', -⟩ := hO'.src
      subst hv'
      have z4 := hc4.size
      replace RB := Lib.hid (Box.put9_away (RB.out.chg hc4 (by omega)) (n := w1.heap.size) (by omega) (.int .i64 l'.a) (.int .i64 l'.b) (.int .i64 l'.c) (.int .i64 l'.d) (.int .i64 k'.a) (.int .i64 k'.b) (.int .i64 k'.c) (.int .i64 k'.d) (.slice ao' ms'.length mc'))
      replace RB1 := Lib.hid (Box.put9_away (RB1.out.chg hc4 (by omega)) (n := w1.heap.size) (by omega) (.int .i64 l'.a) (.int .i64 l'.b) (.int .i64 l'.c) (.int .i64 l'.d) (.int .i64 k'.a) (.int .i64 k'.b) (.int .i64 k'.c) (.int .i64 k'.d) (.slice ao' ms'.length mc'))
      replace TB := Lib.hid (Box.put9_away (TB.out.chg hc4 (by omega)) (n := w1.heap.size) (by omega) (.int .i64 l'.a) (.int .i64 l'.b) (.int .i64 l'.c) (.int .i64 l'.d) (.int .i64 k'.a) (.int .i64 k'.b) (.int .i64 k'.c) (.int .i64 k'.d) (.slice ao' ms'.length mc'))
      have CB4 := CB.out.chg hc4 (by omega)
      replace CB := Lib.hid (Box.put9 CB4 (.int .i64 l'.a) (.int .i64 l'.b) (.int .i64 l'.c) (.int .i64 l'.d) (.int .i64 k'.a) (.int .i64 k'.b) (.int .i64 k'.c) (.int .i64 k'.d) (.slice ao' ms'.length mc'))
      replace OO := Lib.hid (OwnM.chg hO' (Chg.put9 (n := w1.heap.size) (.int .i64 l'.a) (.int .i64 l'.b) (.int .i64 l'.c) (.int .i64 l'.d) (.int .i64 k'.a) (.int .i64 k'.b) (.int .i64 k'.c) (.int .i64 k'.d) (.slice ao' ms'.length mc')) (hO'.block (by omega)))
      replace II := Lib.hid ((II.out.chg hc4 (by omega)).chg (Chg.put9 (n := w1.heap.size) (.int .i64 l'.a) (.int .i64 l'.b) (.int .i64 l'.c) (.int .i64 l'.d) (.int .i64 k'.a) (.int .i64 k'.b) (.int .i64 k'.c) (.int .i64 k'.d) (.slice ao' ms'.length mc')) (by omega))
      replace SS := Lib.hid (SC.put9 (SS.out.trans ⟨hc4, hs4⟩) (n := w1.heap.size) (by omega) (by omega) (.int .i64 l'.a) (.int .i64 l'.b) (.int .i64 l'.c) (.int .i64 l'.d) (.int .i64 k'.a) (.int .i64 k'.b) (.int .i64 k'.c) (.int .i64 k'.d) (.slice ao' ms'.length mc'))
      obtain ⟨⟨r0, r1, r2, r3, r4, r5, r6, r7, r8⟩, g0, g1, g2, g3, g4, g5, g6, g7, g8⟩ := Box.nine CB4
      replace HN := Lib.hid h9'
      replace FT := Lib.hid hFit'
      clear hO' hs4 hc4 CB4 NO
      unfold Crs.put9 at RB RB1 TB CB OO II SS
      go_upto_region 8 with fail
      clear r0 r1 r2 r3 r4 r5 r6 r7 r8 g0 g1 g2 g3 g4 g5 g6 g7 g8
      generalize ((((((((w4.setCell ⟨w1.heap.size, 0, none⟩ (.int .i64 l'.a)).setCell ⟨w1.heap.size, 1, none⟩ (.int .i64 l'.b)).setCell ⟨w1.heap.size, 2, none⟩ (.int .i64 l'.c)).setCell ⟨w1.heap.size, 3, none⟩ (.int .i64 l'.d)).setCell ⟨w1.heap.size, 4, none⟩ (.int .i64 k'.a)).setCell ⟨w1.heap.size, 5, none⟩ (.int .i64 k'.b)).setCell ⟨w1.heap.size, 6, none⟩ (.int .i64 k'.c)).setCell ⟨w1.heap.size, 7, none⟩ (.int .i64 k'.d)).setCell ⟨w1.heap.size, 8, none⟩ (.slice ao' ms'.length mc') = wn at *
      obtain ⟨⟨c0, c1, c2, c3, c4, c5, c6, c7, c8⟩, _⟩ := Box.nine CB.out
      have ct := (TB.out 0 _ rfl).1
      refine wp_region_held_drew (S := fun w' => ChgL [w.heap.size, w.heap.size + 1] wn w') (by kernel_rfl) (by (try dsimp only); exact ChgL.ofExt (Ext.refl wn).drew) (fun hHeld => ?_)
      have eC0 : ∀ w', ChgL [w.heap.size, w.heap.size + 1] wn w' → w'.cell? ⟨w1.heap.size, 0, none⟩ = _ := fun w' h => h.cellOf (by simp; omega) c0
      have eC1 : ∀ w', ChgL [w.heap.size, w.heap.size + 1] wn w' → w'.cell? ⟨w1.heap.size, 1, none⟩ = _ := fun w' h => h.cellOf (by simp; omega) c1
      have eC2 : ∀ w', ChgL [w.heap.size, w.heap.size + 1] wn w' → w'.cell? ⟨w1.heap.size, 2, none⟩ = _ := fun w' h => h.cellOf (by simp; omega) c2
      have eC3 : ∀ w', ChgL [w.heap.size, w.heap.size + 1] wn w' → w'.cell? ⟨w1.heap.size, 3, none⟩ = _ := fun w' h => h.cellOf (by simp; omega) c3
      have eC4 : ∀ w', ChgL [w.heap.size, w.heap.size + 1] wn w' → w'.cell? ⟨w1.heap.size, 4, none⟩ = _ := fun w' h => h.cellOf (by simp; omega) c4
      have eC5 : ∀ w', ChgL [w.heap.size, w.heap.size + 1] wn w' → w'.cell? ⟨w1.heap.size, 5, none⟩ = _ := fun w' h => h.cellOf (by simp; omega) c5
      have eC6 : ∀ w', ChgL [w.heap.size, w.heap.size + 1] wn w' → w'.cell? ⟨w1.heap.size, 6, none⟩ = _ := fun w' h => h.cellOf (by simp; omega) c6
      have eC7 : ∀ w', ChgL [w.heap.size, w.heap.size + 1] wn w' → w'.cell? ⟨w1.heap.size, 7, none⟩ = _ := fun w' h => h.cellOf (by simp; omega) c7
      have eC8 : ∀ w', ChgL [w.heap.size, w.heap.size + 1] wn w' → w'.cell? ⟨w1.heap.size, 8, none⟩ = _ := fun w' h => h.cellOf (by simp; omega) c8
      have eT : ∀ w', ChgL [w.heap.size, w.heap.size + 1] wn w' → w'.cell? ⟨w2.heap.size, 0, none⟩ = _ := fun w' h => h.cellOf (by simp; omega) ct
      clear c0 c1 c2 c3 c4 c5 c6 c7 c8 ct CB TB
      refine Ord.K 0 21 ?_; refine Ord.K 1 22 ?_
      clear eC0 eC1 eC2 eC3 eC4 eC5 eC6 eC7 eC8 eT
      replace RB := Lib.hid (RB.out.ext (Ext.refl wn).drew)
      replace RB1 := Lib.hid (RB1.out.ext (Ext.refl wn).drew)
      replace OO := Lib.hid (OO.out.ext (Ext.refl wn).drew)
      replace II := Lib.hid (II.out.ext (Ext.refl wn).drew)
      replace SS := Lib.hid (SS.out.drew)
      generalize wn.drew = wd at *
      have R7 := RB.out
      have R8 := Lib.hid (Box.put9 R7 (.int .i64 l'.a) (.int .i64 l'.b) (.int .i64 l'.c) (.int .i64 l'.d) (.int .i64 k'.a) (.int .i64 k'.b) (.int .i64 k'.c) (.int .i64 k'.d) (.slice ao' ms'.length mc'))
      have P8 := Lib.hid (Box.put9_away RB1.out (n := w.heap.size) (by omega) (.int .i64 l'.a) (.int .i64 l'.b) (.int .i64 l'.c) (.int .i64 l'.d) (.int .i64 k'.a) (.int .i64 k'.b) (.int .i64 k'.c) (.int .i64 k'.d) (.slice ao' ms'.length mc'))
      have hC9 := hHeld.put9 (n := w.heap.size) (by simp) (.int .i64 l'.a) (.int .i64 l'.b) (.int .i64 l'.c) (.int .i64 l'.d) (.int .i64 k'.a) (.int .i64 k'.b) (.int .i64 k'.c) (.int .i64 k'.d) (.slice ao' ms'.length mc')
      have S8 := Lib.hid (SC.put9 SS.out (n := w.heap.size) (by omega) (by omega) (.int .i64 l'.a) (.int .i64 l'.b) (.int .i64 l'.c) (.int .i64 l'.d) (.int .i64 k'.a) (.int .i64 k'.b) (.int .i64 k'.c) (.int .i64 k'.d) (.slice ao' ms'.length mc'))
      have O8 := Lib.hid (OwnM.chg OO.out (Chg.put9 (n := w.heap.size) (.int .i64 l'.a) (.int .i64 l'.b) (.int .i64 l'.c) (.int .i64 l'.d) (.int .i64 k'.a) (.int .i64 k'.b) (.int .i64 k'.c) (.int .i64 k'.d) (.slice ao' ms'.length mc')) (OO.out.block (by omega)))
      have I8 := Lib.hid (II.out.chg (Chg.put9 (n := w.heap.size) (.int .i64 l'.a) (.int .i64 l'.b) (.int .i64 l'.c) (.int .i64 l'.d) (.int .i64 k'.a) (.int .i64 k'.b) (.int .i64 k'.c) (.int .i64 k'.d) (.slice ao' ms'.length mc')) (by omega))
      obtain ⟨⟨r0, r1, r2, r3, r4, r5, r6, r7, r8⟩, g0, g1, g2, g3, g4, g5, g6, g7, g8⟩ := Box.nine R7
      clear R7 RB RB1 OO II SS
      refine wpAnyH_ready (rs := [2]) (by kernel_rfl) (by simp) ?_
      refine (AllReadyH.cons rfl (fun K hK => ?_) AllReadyH.nil)
      go_simp
      refine hK.out _ _ hC9 (fun hHeld => ?_)
      clear hK K hC9
      (try simp only [Act.put, Ord.a, Ord.b, Ord.c])
      clear r0 r1 r2 r3 r4 r5 r6 r7 r8 g0 g1 g2 g3 g4 g5 g6 g7 g8
      unfold Crs.put9 at R8 P8 S8 O8 I8
      generalize ((((((((wd.setCell ⟨w.heap.size, 0, none⟩ (.int .i64 l'.a)).setCell ⟨w.heap.size, 1, none⟩ (.int .i64 l'.b)).setCell ⟨w.heap.size, 2, none⟩ (.int .i64 l'.c)).setCell ⟨w.heap.size, 3, none⟩ (.int .i64 l'.d)).setCell ⟨w.heap.size, 4, none⟩ (.int .i64 k'.a)).setCell ⟨w.heap.size, 5, none⟩ (.int .i64 k'.b)).setCell ⟨w.heap.size, 6, none⟩ (.int .i64 k'.c)).setCell ⟨w.heap.size, 7, none⟩ (.int .i64 k'.d)).setCell ⟨w.heap.size, 8, none⟩ (.slice ao' ms'.length mc') = w9 at *
      obtain ⟨r0, g0⟩ := P8.out 0 _ rfl
      have R9 := Lib.hid (R8.out.away (p := ⟨w.heap.size + 1, 0, none⟩) (show w.heap.size + 1 ≠ w.heap.size by omega) (.slice (some ⟨g, 0, none⟩) n tc))
      have P9 := Lib.hid (P8.out.set 0 (by simp) (.slice (some ⟨g, 0, none⟩) n tc))
      have S9 := Lib.hid (SC.set S8.out (p := ⟨w.heap.size + 1, 0, none⟩) (show B < w.heap.size + 1 by omega) (show _ ≤ w.heap.size + 1 by omega) (.slice (some ⟨g, 0, none⟩) n tc))
      have O9 := Lib.hid (OwnM.chg O8.out ((Chg.refl (w.heap.size + 1) w9).setCell 0 (.slice (some ⟨g, 0, none⟩) n tc)) (O8.out.block (by omega)))
      have I9 := Lib.hid (I8.out.chg ((Chg.refl (w.heap.size + 1) w9).setCell 0 (.slice (some ⟨g, 0, none⟩) n tc)) (by omega))
      have hC9 := hHeld.set (m := w.heap.size + 1) (by simp) 0 (.slice (some ⟨g, 0, none⟩) n tc)
      clear R8 P8 S8 O8 I8
      refine wpAnyH_ready (rs := [3]) (by kernel_rfl) (by simp) ?_
      refine (AllReadyH.cons rfl (fun K hK => ?_) AllReadyH.nil)
      go_simp
      refine hK.out _ _ hC9 (fun hHeld => ?_)
      clear hK K hC9 r0 g0
      (try simp only [Act.put, Ord.a, Ord.b, Ord.c])
      refine wpAnyH_done (by kernel_rfl) ?_ _
      go_wp2
      exact ld_done R9.out P9.out HN.out FT.out (row_mono O9.out (by omega)) H1 H41 HC (by omega) I9.out S9.out rfl rfl
    · have B1 : (q == 1) = false := by simpa using h1
      clear h0 h1
      clear NO
      go_upto_region 8 with fail
      obtain ⟨⟨c0, c1, c2, c3, c4, c5, c6, c7, c8⟩, _⟩ := Box.nine CB.out
      have ct := (TB.out 0 _ rfl).1
      refine wp_region_held_drew (S := fun w' => ChgL [w.heap.size, w.heap.size + 1] w3 w') (by kernel_rfl) (by (try dsimp only); exact ChgL.ofExt (Ext.refl w3).drew) (fun hHeld => ?_)
      have eC0 : ∀ w', ChgL [w.heap.size, w.heap.size + 1] w3 w' → w'.cell? ⟨w1.heap.size, 0, none⟩ = _ := fun w' h => h.cellOf (by simp; omega) c0
      have eC1 : ∀ w', ChgL [w.heap.size, w.heap.size + 1] w3 w' → w'.cell? ⟨w1.heap.size, 1, none⟩ = _ := fun w' h => h.cellOf (by simp; omega) c1
      have eC2 : ∀ w', ChgL [w.heap.size, w.heap.size + 1] w3 w' → w'.cell? ⟨w1.heap.size, 2, none⟩ = _ := fun w' h => h.cellOf (by simp; omega) c2
      have eC3 : ∀ w', ChgL [w.heap.size, w.heap.size + 1] w3 w' → w'.cell? ⟨w1.heap.size, 3, none⟩ = _ := fun w' h => h.cellOf (by simp; omega) c3
      have eC4 : ∀ w', ChgL [w.heap.size, w.heap.size + 1] w3 w' → w'.cell? ⟨w1.heap.size, 4, none⟩ = _ := fun w' h => h.cellOf (by simp; omega) c4
      have eC5 : ∀ w', ChgL [w.heap.size, w.heap.size + 1] w3 w' → w'.cell? ⟨w1.heap.size, 5, none⟩ = _ := fun w' h => h.cellOf (by simp; omega) c5
      have eC6 : ∀ w', ChgL [w.heap.size, w.heap.size + 1] w3 w' → w'.cell? ⟨w1.heap.size, 6, none⟩ = _ := fun w' h => h.cellOf (by simp; omega) c6
      have eC7 : ∀ w', ChgL [w.heap.size, w.heap.size + 1] w3 w' → w'.cell? ⟨w1.heap.size, 7, none⟩ = _ := fun w' h => h.cellOf (by simp; omega) c7
      have eC8 : ∀ w', ChgL [w.heap.size, w.heap.size + 1] w3 w' → w'.cell? ⟨w1.heap.size, 8, none⟩ = _ := fun w' h => h.cellOf (by simp; omega) c8
      have eT : ∀ w', ChgL [w.heap.size, w.heap.size + 1] w3 w' → w'.cell? ⟨w2.heap.size, 0, none⟩ = _ := fun w' h => h.cellOf (by simp; omega) ct
      clear c0 c1 c2 c3 c4 c5 c6 c7 c8 ct CB TB
      refine Ord.K 0 21 ?_; refine Ord.K 1 22 ?_
      clear eC0 eC1 eC2 eC3 eC4 eC5 eC6 eC7 eC8 eT
      replace RB := Lib.hid (RB.out.ext (Ext.refl w3).drew)
      replace RB1 := Lib.hid (RB1.out.ext (Ext.refl w3).drew)
      replace OO := Lib.hid (OO.out.ext (Ext.refl w3).drew)
      replace II := Lib.hid (II.out.ext (Ext.refl w3).drew)
      replace SS := Lib.hid (SS.out.drew)
      generalize w3.drew = wd at *
      have R7 := RB.out
      have R8 := Lib.hid (Box.put9 R7 (.int .i64 l.a) (.int .i64 l.b) (.int .i64 l.c) (.int .i64 l.d) (.int .i64 k.a) (.int .i64 k.b) (.int .i64 k.c) (.int .i64 k.d) (.slice ao ms.length mc))
      have P8 := Lib.hid (Box.put9_away RB1.out (n := w.heap.size) (by omega) (.int .i64 l.a) (.int .i64 l.b) (.int .i64 l.c) (.int .i64 l.d) (.int .i64 k.a) (.int .i64 k.b) (.int .i64 k.c) (.int .i64 k.d) (.slice ao ms.length mc))
      have hC9 := hHeld.put9 (n := w.heap.size) (by simp) (.int .i64 l.a) (.int .i64 l.b) (.int .i64 l.c) (.int .i64 l.d) (.int .i64 k.a) (.int .i64 k.b) (.int .i64 k.c) (.int .i64 k.d) (.slice ao ms.length mc)
      have S8 := Lib.hid (SC.put9 SS.out (n := w.heap.size) (by omega) (by omega) (.int .i64 l.a) (.int .i64 l.b) (.int .i64 l.c) (.int .i64 l.d) (.int .i64 k.a) (.int .i64 k.b) (.int .i64 k.c) (.int .i64 k.d) (.slice ao ms.length mc))
      have O8 := Lib.hid (OwnM.chg OO.out (Chg.put9 (n := w.heap.size) (.int .i64 l.a) (.int .i64 l.b) (.int .i64 l.c) (.int .i64 l.d) (.int .i64 k.a) (.int .i64 k.b) (.int .i64 k.c) (.int .i64 k.d) (.slice ao ms.length mc)) (OO.out.block (by omega)))
      have I8 := Lib.hid (II.out.chg (Chg.put9 (n := w.heap.size) (.int .i64 l.a) (.int .i64 l.b) (.int .i64 l.c) (.int .i64 l.d) (.int .i64 k.a) (.int .i64 k.b) (.int .i64 k.c) (.int .i64 k.d) (.slice ao ms.length mc)) (by omega))
      obtain ⟨⟨r0, r1, r2, r3, r4, r5, r6, r7, r8⟩, g0, g1, g2, g3, g4, g5, g6, g7, g8⟩ := Box.nine R7
      clear R7 RB RB1 OO II SS
      refine wpAnyH_ready (rs := [2]) (by kernel_rfl) (by simp) ?_
      refine (AllReadyH.cons rfl (fun K hK => ?_) AllReadyH.nil)
      go_simp
      refine hK.out _ _ hC9 (fun hHeld => ?_)
      clear hK K hC9
      (try simp only [Act.put, Ord.a, Ord.b, Ord.c])
      clear r0 r1 r2 r3 r4 r5 r6 r7 r8 g0 g1 g2 g3 g4 g5 g6 g7 g8
      unfold Crs.put9 at R8 P8 S8 O8 I8
      generalize ((((((((wd.setCell ⟨w.heap.size, 0, none⟩ (.int .i64 l.a)).setCell ⟨w.heap.size, 1, none⟩ (.int .i64 l.b)).setCell ⟨w.heap.size, 2, none⟩ (.int .i64 l.c)).setCell ⟨w.heap.size, 3, none⟩ (.int .i64 l.d)).setCell ⟨w.heap.size, 4, none⟩ (.int .i64 k.a)).setCell ⟨w.heap.size, 5, none⟩ (.int .i64 k.b)).setCell ⟨w.heap.size, 6, none⟩ (.int .i64 k.c)).setCell ⟨w.heap.size, 7, none⟩ (.int .i64 k.d)).setCell ⟨w.heap.size, 8, none⟩ (.slice ao ms.length mc) = w9 at *
      obtain ⟨r0, g0⟩ := P8.out 0 _ rfl
      have R9 := Lib.hid (R8.out.away (p := ⟨w.heap.size + 1, 0, none⟩) (show w.heap.size + 1 ≠ w.heap.size by omega) (.slice (some ⟨g, 0, none⟩) n tc))
      have P9 := Lib.hid (P8.out.set 0 (by simp) (.slice (some ⟨g, 0, none⟩) n tc))
      have S9 := Lib.hid (SC.set S8.out (p := ⟨w.heap.size + 1, 0, none⟩) (show B < w.heap.size + 1 by omega) (show _ ≤ w.heap.size + 1 by omega) (.slice (some ⟨g, 0, none⟩) n tc))
      have O9 := Lib.hid (OwnM.chg O8.out ((Chg.refl (w.heap.size + 1) w9).setCell 0 (.slice (some ⟨g, 0, none⟩) n tc)) (O8.out.block (by omega)))
      have I9 := Lib.hid (I8.out.chg ((Chg.refl (w.heap.size + 1) w9).setCell 0 (.slice (some ⟨g, 0, none⟩) n tc)) (by omega))
      have hC9 := hHeld.set (m := w.heap.size + 1) (by simp) 0 (.slice (some ⟨g, 0, none⟩) n tc)
      clear R8 P8 S8 O8 I8
      refine wpAnyH_ready (rs := [3]) (by kernel_rfl) (by simp) ?_
      refine (AllReadyH.cons rfl (fun K hK => ?_) AllReadyH.nil)
      go_simp
      refine hK.out _ _ hC9 (fun hHeld => ?_)
      clear hK K hC9 r0 g0
      (try simp only [Act.put, Ord.a, Ord.b, Ord.c])
      refine wpAnyH_done (by kernel_rfl) ?_ _
      go_wp2
      exact ld_done R9.out P9.out HN.out FT.out (row_mono O9.out (by omega)) H1 H41 HC (by omega) I9.out S9.out rfl rfl
set_option maxRecDepth 100000 in
set_option maxHeartbeats 16000000 in
theorem drawReachedAt_any (a : Option Addr) (len cap : Nat) (w : World) (hb : Bytes w a len) (hl : len ≤ 100000) : Calls Tryz.prog 12 #[.slice a len cap] w (CTI w) := by
  have HB := Lib.hid hb
  clear hb
  obtain ⟨W0, hW0⟩ : ∃ W0, W0 = (w.alloc (.cells (cellsC zeroL zeroL (.slice none 0 0)).toArray 30)).alloc (.cells #[.slice none 0 0] 33) := ⟨_, rfl⟩
  have hX : Ext w W0 := hW0 ▸ ((Ext.refl w).alloc _).alloc _
  have hz0 : W0.heap.size = w.heap.size + 1 + 1 := by rw [hW0]; simp
  have RB := Lib.hid (show Box W0 w.heap.size (cellsC zeroL zeroL (.slice none 0 0)) by rw [hW0]; exact (Box.new rfl).alloc _)
  have RB1 := Lib.hid (show Box W0 (w.heap.size + 1) [.slice none 0 0] by rw [hW0]; exact Box.new (vs := [.slice none 0 0]) (by simp))
  go_enter Tryz.func12, Tryz.ntmps12
  go_wp2_with fail
  rw [← hW0]
  clear hW0
  refine (from_any _ _ _ _ (HB.out.ext hX) hl).mono ?_
  rintro e w1 ⟨B, rfl, hB, hs1, hx1⟩
  replace RB := Lib.hid (RB.out.ext hx1)
  replace RB1 := Lib.hid (RB1.out.ext hx1)
  have hx := Lib.hid (hX.trans hx1)
  have z1 := Ext.size hx1
  have l1 := hs1.lt
  clear hx1 hX HB
  go_wp2_with fail
  refine (l06Draw_any B w1 hs1).mono ?_
  rintro e w2 ⟨l, k, v, ms, g, tc, n, rfl, hN, hF, hO, H1, H41, HC, hg, hI, hs2, hc2⟩
  obtain ⟨ao, mc, hv, -⟩ := hO.src
  subst hv
  have z2 := hc2.size
  have hgl : g < w2.heap.size := World.block_lt_of_cell? w2 _ (hI 0 (by omega)).1.choose_spec
  obtain ⟨W2, hW2⟩ : ∃ W2, W2 = (w2.alloc (.cells (cellsC l k (.slice ao ms.length mc)).toArray 30)).alloc (.cells #[.slice (some ⟨g, 0, none⟩) n tc] 33) := ⟨_, rfl⟩
  have hy : Ext w2 W2 := hW2 ▸ ((Ext.refl w2).alloc _).alloc _
  have zW2 : W2.heap.size = w2.heap.size + 1 + 1 := by rw [hW2]; simp
  have CB := Lib.hid (show Box W2 w2.heap.size (cellsC l k (.slice ao ms.length mc)) by rw [hW2]; exact (Box.new rfl).alloc _)
  have TB := Lib.hid (show Box W2 (w2.heap.size + 1) [.slice (some ⟨g, 0, none⟩) n tc] by rw [hW2]; exact Box.new (vs := [.slice (some ⟨g, 0, none⟩) n tc]) (by simp))
  replace RB := Lib.hid ((RB.out.chg hc2 (by omega)).ext hy)
  replace RB1 := Lib.hid ((RB1.out.chg hc2 (by omega)).ext hy)
  have OO := Lib.hid (OwnM.ext hO hy)
  have II := Lib.hid (hI.ext hy)
  have S2 := Lib.hid (hs2.ext hy)
  have X2 := Lib.hid (hc2.ext hx.out (by omega) |>.trans hy)
  have HN := Lib.hid hN
  have FT := Lib.hid hF
  clear hs1 hs2 hc2 hO hI hx hN hF hy
  go_upto_region 3 with fail
  rw [← hW2]
  clear hW2
  obtain ⟨⟨c0, c1, c2, c3, c4, c5, c6, c7, c8⟩, _⟩ := Box.nine CB.out
  have ct := (TB.out 0 _ rfl).1
  refine wp_region_held_drew (S := fun w' => ChgL [B, w.heap.size, w.heap.size + 1] W2 w') (by kernel_rfl) (by (try dsimp only); exact ChgL.ofExt (Ext.refl W2).drew) (fun hHeld => ?_)
  have eC0 : ∀ w', ChgL [B, w.heap.size, w.heap.size + 1] W2 w' → w'.cell? ⟨w2.heap.size, 0, none⟩ = _ := fun w' h => h.cellOf (by simp; omega) c0
  have eC1 : ∀ w', ChgL [B, w.heap.size, w.heap.size + 1] W2 w' → w'.cell? ⟨w2.heap.size, 1, none⟩ = _ := fun w' h => h.cellOf (by simp; omega) c1
  have eC2 : ∀ w', ChgL [B, w.heap.size, w.heap.size + 1] W2 w' → w'.cell? ⟨w2.heap.size, 2, none⟩ = _ := fun w' h => h.cellOf (by simp; omega) c2
  have eC3 : ∀ w', ChgL [B, w.heap.size, w.heap.size + 1] W2 w' → w'.cell? ⟨w2.heap.size, 3, none⟩ = _ := fun w' h => h.cellOf (by simp; omega) c3
  have eC4 : ∀ w', ChgL [B, w.heap.size, w.heap.size + 1] W2 w' → w'.cell? ⟨w2.heap.size, 4, none⟩ = _ := fun w' h => h.cellOf (by simp; omega) c4
  have eC5 : ∀ w', ChgL [B, w.heap.size, w.heap.size + 1] W2 w' → w'.cell? ⟨w2.heap.size, 5, none⟩ = _ := fun w' h => h.cellOf (by simp; omega) c5
  have eC6 : ∀ w', ChgL [B, w.heap.size, w.heap.size + 1] W2 w' → w'.cell? ⟨w2.heap.size, 6, none⟩ = _ := fun w' h => h.cellOf (by simp; omega) c6
  have eC7 : ∀ w', ChgL [B, w.heap.size, w.heap.size + 1] W2 w' → w'.cell? ⟨w2.heap.size, 7, none⟩ = _ := fun w' h => h.cellOf (by simp; omega) c7
  have eC8 : ∀ w', ChgL [B, w.heap.size, w.heap.size + 1] W2 w' → w'.cell? ⟨w2.heap.size, 8, none⟩ = _ := fun w' h => h.cellOf (by simp; omega) c8
  have eT : ∀ w', ChgL [B, w.heap.size, w.heap.size + 1] W2 w' → w'.cell? ⟨w2.heap.size + 1, 0, none⟩ = _ := fun w' h => h.cellOf (by simp; omega) ct
  clear c0 c1 c2 c3 c4 c5 c6 c7 c8 ct CB TB
  refine Ord.K 0 15 ?_; refine Ord.K 1 16 ?_; refine Ord.K 2 17 ?_; refine Ord.K 3 18 ?_
  clear eC0 eC1 eC2 eC3 eC4 eC5 eC6 eC7 eC8 eT
  refine wpAnyH_ready (rs := [4]) (by kernel_rfl) (by simp) ?_
  refine (AllReadyH.cons rfl (fun K hK => ?_) AllReadyH.nil)
  go_simp
  go_at_call 59
  refine (drawTime_any B g tc n _ S2.out.drew (II.out.ext (Ext.refl W2).drew) (by omega) H1 H41 HC).mono ?_
  rintro e w4 ⟨p, rfl, hs4, hc4⟩
  go_wp2_with fail
  have hc : Chg B W2 w4 := (Chg.refl B W2).drew.trans hc4
  have z4 := hc.size
  refine hK.out _ _ (ChgL.ofChg hc (by simp)) (fun hHeld => ?_)
  clear hK K hc4
  (try simp only [Act.put, Ord.a, Ord.b, Ord.c])
  replace RB := Lib.hid (RB.out.chg hc (by omega))
  replace RB1 := Lib.hid (RB1.out.chg hc (by omega))
  replace OO := Lib.hid (OO.out.chg hc (OO.out.block (by omega)))
  replace II := Lib.hid (II.out.chg hc (by omega))
  have X4 := Lib.hid (hc.ext X2.out (by omega))
  clear hs4 hc S2 X2
  have R7 := RB.out
  have R8 := Lib.hid (Box.put9 R7 (.int .i64 l.a) (.int .i64 l.b) (.int .i64 l.c) (.int .i64 l.d) (.int .i64 k.a) (.int .i64 k.b) (.int .i64 k.c) (.int .i64 k.d) (.slice ao ms.length mc))
  have P8 := Lib.hid (Box.put9_away RB1.out (n := w.heap.size) (by omega) (.int .i64 l.a) (.int .i64 l.b) (.int .i64 l.c) (.int .i64 l.d) (.int .i64 k.a) (.int .i64 k.b) (.int .i64 k.c) (.int .i64 k.d) (.slice ao ms.length mc))
  have hC9 := hHeld.put9 (n := w.heap.size) (by simp) (.int .i64 l.a) (.int .i64 l.b) (.int .i64 l.c) (.int .i64 l.d) (.int .i64 k.a) (.int .i64 k.b) (.int .i64 k.c) (.int .i64 k.d) (.slice ao ms.length mc)
  have O8 := Lib.hid (OwnM.chg OO.out (Chg.put9 (n := w.heap.size) (.int .i64 l.a) (.int .i64 l.b) (.int .i64 l.c) (.int .i64 l.d) (.int .i64 k.a) (.int .i64 k.b) (.int .i64 k.c) (.int .i64 k.d) (.slice ao ms.length mc)) (OO.out.block (by omega)))
  have I8 := Lib.hid (II.out.chg (Chg.put9 (n := w.heap.size) (.int .i64 l.a) (.int .i64 l.b) (.int .i64 l.c) (.int .i64 l.d) (.int .i64 k.a) (.int .i64 k.b) (.int .i64 k.c) (.int .i64 k.d) (.slice ao ms.length mc)) (by omega))
  have X8 := Lib.hid (Ext.put9 X4.out (n := w.heap.size) (Nat.le_refl _) (.int .i64 l.a) (.int .i64 l.b) (.int .i64 l.c) (.int .i64 l.d) (.int .i64 k.a) (.int .i64 k.b) (.int .i64 k.c) (.int .i64 k.d) (.slice ao ms.length mc))
  obtain ⟨⟨r0, r1, r2, r3, r4, r5, r6, r7, r8⟩, g0, g1, g2, g3, g4, g5, g6, g7, g8⟩ := Box.nine R7
  clear R7 RB RB1 OO II
  refine wpAnyH_ready (rs := [5]) (by kernel_rfl) (by simp) ?_
  refine (AllReadyH.cons rfl (fun K hK => ?_) AllReadyH.nil)
  go_simp
  refine hK.out _ _ hC9 (fun hHeld => ?_)
  clear hK K hC9
  (try simp only [Act.put, Ord.a, Ord.b, Ord.c])
  clear r0 r1 r2 r3 r4 r5 r6 r7 r8 g0 g1 g2 g3 g4 g5 g6 g7 g8
  unfold Crs.put9 at R8 P8 O8 I8 X8
  generalize ((((((((w4.setCell ⟨w.heap.size, 0, none⟩ (.int .i64 l.a)).setCell ⟨w.heap.size, 1, none⟩ (.int .i64 l.b)).setCell ⟨w.heap.size, 2, none⟩ (.int .i64 l.c)).setCell ⟨w.heap.size, 3, none⟩ (.int .i64 l.d)).setCell ⟨w.heap.size, 4, none⟩ (.int .i64 k.a)).setCell ⟨w.heap.size, 5, none⟩ (.int .i64 k.b)).setCell ⟨w.heap.size, 6, none⟩ (.int .i64 k.c)).setCell ⟨w.heap.size, 7, none⟩ (.int .i64 k.d)).setCell ⟨w.heap.size, 8, none⟩ (.slice ao ms.length mc) = w9 at *
  obtain ⟨r0, g0⟩ := P8.out 0 _ rfl
  have R9 := Lib.hid (R8.out.away (p := ⟨w.heap.size + 1, 0, none⟩) (show w.heap.size + 1 ≠ w.heap.size by omega) (.slice (some ⟨g, 0, none⟩) n tc))
  have P9 := Lib.hid (P8.out.set 0 (by simp) (.slice (some ⟨g, 0, none⟩) n tc))
  have O9 := Lib.hid (OwnM.chg O8.out ((Chg.refl (w.heap.size + 1) w9).setCell 0 (.slice (some ⟨g, 0, none⟩) n tc)) (O8.out.block (by omega)))
  have I9 := Lib.hid (I8.out.chg ((Chg.refl (w.heap.size + 1) w9).setCell 0 (.slice (some ⟨g, 0, none⟩) n tc)) (by omega))
  have X9 := Lib.hid (X8.out.setNew (p := ⟨w.heap.size + 1, 0, none⟩) (by simp) (.slice (some ⟨g, 0, none⟩) n tc))
  have hC9 := hHeld.set (m := w.heap.size + 1) (by simp) 0 (.slice (some ⟨g, 0, none⟩) n tc)
  clear R8 P8 O8 I8
  refine wpAnyH_ready (rs := [6]) (by kernel_rfl) (by simp) ?_
  refine (AllReadyH.cons rfl (fun K hK => ?_) AllReadyH.nil)
  go_simp
  refine hK.out _ _ hC9 (fun hHeld => ?_)
  clear hK K hC9 r0 g0
  (try simp only [Act.put, Ord.a, Ord.b, Ord.c])
  refine Ord.K 7 4 ?_
  refine wpAnyH_done (by kernel_rfl) ?_ _
  go_wp2
  exact cti_done R9.out P9.out HN.out FT.out (row_mono O9.out (by omega)) H41 HC I9.out X9.out rfl rfl rfl
end Go.Proofs.YtmlojndkpnhalaaGreat.Crs
