/- ShortenCourse (impl, spec): both answers. -/
import Derived.Test.YtiofplgbbbdkfaaSho
import Derived.Test.YtiofplgbbbdkfaaCrs2
import Derived.Deep.RegionHeld3
import Derived.Deep.DeepCutAuto
namespace Go.Proofs.Ytiofplgbbbdkfaa.Crs
open Go.ChangeShapes Go.WideShapes Go.ChangeAt Go.RowKit
open Go.Proofs.Ytiofplgbbbdkfaa.Num Go.Proofs.Ytiofplgbbbdkfaa.Kit Go.Proofs.Ytiofplgbbbdkfaa.Pts Go.Proofs.Ytiofplgbbbdkfaa.Seg
set_option linter.unusedVariables false
set_option linter.unusedSimpArgs false

abbrev put9 (w : World) (B : Nat) (a b c d e f g h i : Value) : World := (((((((((w).setCell ⟨B, 0, none⟩ (a)).setCell ⟨B, 1, none⟩ (b)).setCell ⟨B, 2, none⟩ (c)).setCell ⟨B, 3, none⟩ (d)).setCell ⟨B, 4, none⟩ (e)).setCell ⟨B, 5, none⟩ (f)).setCell ⟨B, 6, none⟩ (g)).setCell ⟨B, 7, none⟩ (h)).setCell ⟨B, 8, none⟩ (i)
theorem Box.put9 {w : World} {n : Nat} {x0 x1 x2 x3 x4 x5 x6 x7 x8 : Value} (H : Box w n [x0, x1, x2, x3, x4, x5, x6, x7, x8]) (a b c d e f g h i : Value) : Box (Crs.put9 w n a b c d e f g h i) n [a, b, c, d, e, f, g, h, i] :=
  ((((((((H.set 0 (by simp) a).set 1 (by simp) b).set 2 (by simp) c).set 3 (by simp) d).set 4 (by simp) e).set 5 (by simp) f).set 6 (by simp) g).set 7 (by simp) h).set 8 (by simp) i
theorem Box.put9_away {w : World} {n m : Nat} {vs : List Value} (H : Box w m vs) (hn : n ≠ m) (a b c d e f g h i : Value) : Box (Crs.put9 w n a b c d e f g h i) m vs :=
  ((((((((H.away hn a).away hn b).away hn c).away hn d).away hn e).away hn f).away hn g).away hn h).away hn i
theorem Ext.put9 {w0 w : World} {n : Nat} (H : Ext w0 w) (hn : w0.heap.size ≤ n) (a b c d e f g h i : Value) : Ext w0 (Crs.put9 w n a b c d e f g h i) :=
  ((((((((H.setNew hn a).setNew hn b).setNew hn c).setNew hn d).setNew hn e).setNew hn f).setNew hn g).setNew hn h).setNew hn i
theorem Chg.put9 {w : World} {n : Nat} (a b c d e f g h i : Value) : Chg n w (Crs.put9 w n a b c d e f g h i) :=
  ((((((((Chg.refl n w).setCell 0 a).setCell 1 b).setCell 2 c).setCell 3 d).setCell 4 e).setCell 5 f).setCell 6 g).setCell 7 h |>.setCell 8 i

/-- The code of ShortenCourse, and what it answers. -/
def shC (l k f : L4) (ms : List M5) (q : Int) : Int := if crB l k ms = true then (if 1 ≤ q ∧ q ≤ ms.length then (if crB l f (ms.take q.toNat) = true then 0 else 5) else 2) else 1
def shL (l k f : L4) (ms : List M5) (q : Int) : L4 := if shC l k f ms q = 0 then l else zeroL
def shF (l k f : L4) (ms : List M5) (q : Int) : L4 := if shC l k f ms q = 0 then f else zeroL
def shM (l k f : L4) (ms : List M5) (q : Int) : List M5 := if shC l k f ms q = 0 then ms.take q.toNat else []
theorem sh_bad {l k f : L4} {ms : List M5} {q : Int} (h : shC l k f ms q ≠ 0) : shL l k f ms q = zeroL ∧ shF l k f ms q = zeroL ∧ shM l k f ms q = [] := ⟨if_neg h, if_neg h, if_neg h⟩
theorem sh_good {l k f : L4} {ms : List M5} {q : Int} (h : shC l k f ms q = 0) : shL l k f ms q = l ∧ shF l k f ms q = f ∧ shM l k f ms q = ms.take q.toNat := ⟨if_pos h, if_pos h, if_pos h⟩
def ShPost (w : World) (l k f : L4) (ms : List M5) (q : Int) (e : Ending) (w' : World) : Prop :=
  ∃ v, e = .returned (.tuple #[CV (shL l k f ms q) (shF l k f ms q) v, .int .i64 (shC l k f ms q)]) ∧ OwnM w' w.heap.size v (shM l k f ms q) ∧ Ext w w'
theorem ShPost.bad {w w' : World} {l k f : L4} {ms : List M5} {q c : Int} (hc : shC l k f ms q = c) (h : c ≠ 0) (x : Ext w w') : ShPost w l k f ms q (.returned (.tuple #[CV zeroL zeroL (.slice none 0 0), .int .i64 c])) w' := by
  obtain ⟨h1, h2, h3⟩ := sh_bad (l := l) (k := k) (f := f) (ms := ms) (q := q) (by rw [hc]; exact h)
  exact ⟨_, by rw [h1, h2, hc], by rw [h3]; exact World.ownsRow_nil _ _ _ _, x⟩
theorem ShPost.good {w w' : World} {l k f : L4} {ms : List M5} {q : Int} {v : Value} (hc : shC l k f ms q = 0) (O : OwnM w' w.heap.size v (ms.take q.toNat)) (x : Ext w w') : ShPost w l k f ms q (.returned (.tuple #[CV l f v, .int .i64 0])) w' := by
  obtain ⟨h1, h2, h3⟩ := sh_good hc
  exact ⟨v, by rw [h1, h2, hc], by rw [h3]; exact O, x⟩

theorem shorten_doneI {n : Nat} {F : World} {tmps : Array Value} {l k : L4} {v : Value} {c : Int} {Q : Ending → World → Prop} (B : Box F n (cellsC l k v)) (hQ : Q (.returned (.tuple #[CV l k v, .int .i64 c])) F) (ha : tmps[6]? = some (.pointer (some ⟨n, 0, none⟩))) (hb : tmps[7]? = some (.int .i64 c)) :
    bodyPost Try.prog Try.f13 Q Exit.ret ⟨tmps, []⟩ F := by
  obtain ⟨⟨g0, g1, g2, g3, g4, g5, g6, g7, g8⟩, _⟩ := Box.nine B
  exact bodyPost_ret (v := .tuple #[CV l k v, .int .i64 c]) (by simp [results, Try.results13, go_sem, ha, hb, g0, g1, g2, g3, g4, g5, g6, g7, g8]) rfl hQ

set_option maxRecDepth 100000 in
set_option maxHeartbeats 8000000 in
theorem shorten_impl (l k f : L4) (a : Option Addr) (cap : Nat) (ms : List M5) (q : Int) (w : World) (hf : Mks w a ms) (hcap : ms.length ≤ cap) (hsl : cap ≤ maxLen) :
    Calls Try.prog 13 #[CV l k (.slice a ms.length cap), .int .i64 q, LV f] w (ShPost w l k f ms q) := by
  obtain ⟨W0, hW0⟩ : ∃ W0, W0 = ((w.alloc (.cells (cellsC l k (.slice a ms.length cap)).toArray 30)).alloc (.cells #[.int .i64 f.a, .int .i64 f.b, .int .i64 f.c, .int .i64 f.d] 27)).alloc (.cells (cellsC zeroL zeroL (.slice none 0 0)).toArray 30) := ⟨_, rfl⟩
  have HW := Lib.hid (show Ext w W0 from hW0 ▸ (((Ext.refl w).alloc _).alloc _).alloc _)
  have BB := Lib.hid (show Box W0 w.heap.size (cellsC l k (.slice a ms.length cap)) from hW0 ▸ ((Box.new rfl).alloc _).alloc _)
  have BF := Lib.hid (show Box W0 (w.heap.size + 1) [.int .i64 f.a, .int .i64 f.b, .int .i64 f.c, .int .i64 f.d] from hW0 ▸ (Box.new4 (by simp)).alloc _)
  have BR := Lib.hid (show Box W0 (w.heap.size + 1 + 1) (cellsC zeroL zeroL (.slice none 0 0)) from hW0 ▸ Box.new (by simp))
  have hs0 : W0.heap.size = w.heap.size + 1 + 1 + 1 := by rw [hW0]; simp
  have hm := hf.1.1
  have HF := Lib.hid (hf.ext HW.out)
  clear hf
  unfold maxLen at hm hsl
  cases hq : crB l k ms
  · go_enter Try.func13, Try.ntmps13
    go_wp2_with fail
    rw [← hW0]
    clear hW0
    refine (courseValid_any _ _ _ _ _ _ HF.out).mono ?_
    rw [hq]
    rintro e w1 ⟨rfl, hx⟩
    obtain ⟨⟨h0, h1, h2, h3, h4, h5, h6, h7, h8⟩, f0, f1, f2, f3, f4, f5, f6, f7, f8⟩ := Box.nine (BR.out.ext hx)
    have HR := Lib.hid (Box.put9 (BR.out.ext hx) (.int .i64 0) (.int .i64 0) (.int .i64 0) (.int .i64 0) (.int .i64 0) (.int .i64 0) (.int .i64 0) (.int .i64 0) (.slice none 0 0))
    have HX := Lib.hid (Ext.put9 (HW.out.trans hx) (n := w.heap.size + 1 + 1) (by omega) (.int .i64 0) (.int .i64 0) (.int .i64 0) (.int .i64 0) (.int .i64 0) (.int .i64 0) (.int .i64 0) (.int .i64 0) (.slice none 0 0))
    have HC := Lib.hid (show shC l k f ms q = 1 by unfold shC; rw [hq]; rfl)
    go_wp2
    exact shorten_doneI HR.out (ShPost.bad HC.out (by decide) HX.out) rfl rfl
  have h8 := cr_eight hq
  have e8 : (ms.length : Int) ≤ 8 := by omega
  by_cases q1 : q < 1
  · have HI : inB q 1 (ms.length : Int) = false := inB_no (by omega)
    go_enter Try.func13, Try.ntmps13
    go_wp2_with fail
    rw [← hW0]
    clear hW0
    refine (courseValid_any _ _ _ _ _ _ HF.out).mono ?_
    rw [hq]
    rintro e w1 ⟨rfl, hx⟩
    obtain ⟨⟨p0, p1, p2, p3, p4, p5, p6, p7, p8⟩, _⟩ := Box.nine (BB.out.ext hx)
    obtain ⟨⟨h0, h1, h2, h3, h4, h5, h6, h7, h8⟩, f0, f1, f2, f3, f4, f5, f6, f7, f8⟩ := Box.nine (BR.out.ext hx)
    have HR := Lib.hid (Box.put9 (BR.out.ext hx) (.int .i64 0) (.int .i64 0) (.int .i64 0) (.int .i64 0) (.int .i64 0) (.int .i64 0) (.int .i64 0) (.int .i64 0) (.slice none 0 0))
    have HX := Lib.hid (Ext.put9 (HW.out.trans hx) (n := w.heap.size + 1 + 1) (by omega) (.int .i64 0) (.int .i64 0) (.int .i64 0) (.int .i64 0) (.int .i64 0) (.int .i64 0) (.int .i64 0) (.int .i64 0) (.slice none 0 0))
    have HC := Lib.hid (show shC l k f ms q = 2 by unfold shC; rw [if_pos hq, if_neg (by omega)])
    go_wp2
    exact shorten_doneI HR.out (ShPost.bad HC.out (by decide) HX.out) rfl rfl
  by_cases q2 : (ms.length : Int) < q
  · have HI : inB q 1 (ms.length : Int) = false := inB_no (by omega)
    go_enter Try.func13, Try.ntmps13
    go_wp2_with fail
    rw [← hW0]
    clear hW0
    refine (courseValid_any _ _ _ _ _ _ HF.out).mono ?_
    rw [hq]
    rintro e w1 ⟨rfl, hx⟩
    obtain ⟨⟨p0, p1, p2, p3, p4, p5, p6, p7, p8⟩, _⟩ := Box.nine (BB.out.ext hx)
    obtain ⟨⟨h0, h1, h2, h3, h4, h5, h6, h7, h8⟩, f0, f1, f2, f3, f4, f5, f6, f7, f8⟩ := Box.nine (BR.out.ext hx)
    have HR := Lib.hid (Box.put9 (BR.out.ext hx) (.int .i64 0) (.int .i64 0) (.int .i64 0) (.int .i64 0) (.int .i64 0) (.int .i64 0) (.int .i64 0) (.int .i64 0) (.slice none 0 0))
    have HX := Lib.hid (Ext.put9 (HW.out.trans hx) (n := w.heap.size + 1 + 1) (by omega) (.int .i64 0) (.int .i64 0) (.int .i64 0) (.int .i64 0) (.int .i64 0) (.int .i64 0) (.int .i64 0) (.int .i64 0) (.slice none 0 0))
    have HC := Lib.hid (show shC l k f ms q = 2 by unfold shC; rw [if_pos hq, if_neg (by omega)])
    go_wp2
    exact shorten_doneI HR.out (ShPost.bad HC.out (by decide) HX.out) rfl rfl
  · have HI : inB q 1 (ms.length : Int) = true := inB_yes (by omega) (by omega)
    obtain ⟨j, rfl⟩ : ∃ j : Nat, q = (j : Int) := ⟨q.toNat, by omega⟩
    have ht : (ms.take j).length = j := by simp; omega
    have hT : ((j : Int)).toNat = j := by omega
    obtain ⟨b, off, rfl, hbr⟩ := HF.out.row (by omega)
    have j1 : (0 : Int) ≤ (j : Int) := by omega
    have j2 : (j : Int) ≤ (cap : Int) := by omega
    have j3 : j ≤ cap := by omega
    have MT := Lib.hid (HF.out.take j)
    go_enter Try.func13, Try.ntmps13
    go_wp2_with fail
    rw [← hW0]
    clear hW0
    refine (courseValid_any _ _ _ _ _ _ HF.out).mono ?_
    rw [hq]
    rintro e w1 ⟨rfl, hx⟩
    obtain ⟨⟨p0, p1, p2, p3, p4, p5, p6, p7, p8⟩, _⟩ := Box.nine (BB.out.ext hx)
    go_upto_region 5 with fail
    have e0 : Ext w1 w1 := Ext.refl w1
    have c10 : ∀ w', Ext w1 w' → w'.cell? ⟨w.heap.size, 0, none⟩ = some (.int .i64 l.a) := fun w' h => h.cellOf p0
    have c11 : ∀ w', Ext w1 w' → w'.cell? ⟨w.heap.size, 1, none⟩ = some (.int .i64 l.b) := fun w' h => h.cellOf p1
    have c12 : ∀ w', Ext w1 w' → w'.cell? ⟨w.heap.size, 2, none⟩ = some (.int .i64 l.c) := fun w' h => h.cellOf p2
    have c13 : ∀ w', Ext w1 w' → w'.cell? ⟨w.heap.size, 3, none⟩ = some (.int .i64 l.d) := fun w' h => h.cellOf p3
    have c14 : ∀ w', Ext w1 w' → w'.cell? ⟨w.heap.size, 4, none⟩ = some (.int .i64 k.a) := fun w' h => h.cellOf p4
    have c15 : ∀ w', Ext w1 w' → w'.cell? ⟨w.heap.size, 5, none⟩ = some (.int .i64 k.b) := fun w' h => h.cellOf p5
    have c16 : ∀ w', Ext w1 w' → w'.cell? ⟨w.heap.size, 6, none⟩ = some (.int .i64 k.c) := fun w' h => h.cellOf p6
    have c17 : ∀ w', Ext w1 w' → w'.cell? ⟨w.heap.size, 7, none⟩ = some (.int .i64 k.d) := fun w' h => h.cellOf p7
    have c18 : ∀ w', Ext w1 w' → w'.cell? ⟨w.heap.size, 8, none⟩ = some (.slice (some ⟨b, off, none⟩) ms.length cap) := fun w' h => h.cellOf p8
    have d10 : ∀ w', Ext w1 w' → w'.cell? ⟨w.heap.size + 1, 0, none⟩ = some (.int .i64 f.a) := fun w' h => (hx.trans h).cellOf (BF.out 0 _ rfl).1
    have d11 : ∀ w', Ext w1 w' → w'.cell? ⟨w.heap.size + 1, 1, none⟩ = some (.int .i64 f.b) := fun w' h => (hx.trans h).cellOf (BF.out 1 _ rfl).1
    have d12 : ∀ w', Ext w1 w' → w'.cell? ⟨w.heap.size + 1, 2, none⟩ = some (.int .i64 f.c) := fun w' h => (hx.trans h).cellOf (BF.out 2 _ rfl).1
    have d13 : ∀ w', Ext w1 w' → w'.cell? ⟨w.heap.size + 1, 3, none⟩ = some (.int .i64 f.d) := fun w' h => (hx.trans h).cellOf (BF.out 3 _ rfl).1
    have X1 := Lib.hid hx
    have z1 := Ext.size hx
    clear hx p0 p1 p2 p3 p4 p5 p6 p7 p8 hbr
    go_cut [8] (fun s wx => ∃ (B : Nat) (a1 : Option Addr) (cap1 : Nat), s = .pointer (some ⟨B, 0, none⟩) ∧ Box wx B (cellsC l f (.slice a1 j cap1)) ∧ OwnM wx w1.heap.size (.slice a1 j cap1) (ms.take j) ∧ w1.heap.size ≤ B ∧ Ext w1 wx)
    case first =>
      refine wp_region_held_drew (S := fun w' => Ext w1 w') (by kernel_rfl) (by (try dsimp only); exact (Ext.refl _).drew) (fun hHeld => ?_)
      (refine Ord.takeH 0 23 (v := ?_) rfl rfl (by kernel_rfl) (by kernel_rfl) (by kernel_rfl) (fun _ _ _ h => h) (by rfl) ?_ (by assumption) ?_; rotate_left; (intro w hSw; (try dsimp only at hSw); go_simp; (first | done | with_reducible rfl)); (try simp only [Act.put, List.setIfInBounds_toArray, List.set_cons_zero, List.set_cons_succ])); (refine Ord.takeH 1 24 (v := ?_) rfl rfl (by kernel_rfl) (by kernel_rfl) (by kernel_rfl) (fun _ _ _ h => h) (by rfl) ?_ (by assumption) ?_; rotate_left; (intro w hSw; (try dsimp only at hSw); go_simp; (first | done | with_reducible rfl)); (try simp only [Act.put, List.setIfInBounds_toArray, List.set_cons_zero, List.set_cons_succ])); (refine Ord.takeH 2 25 (v := ?_) rfl rfl (by kernel_rfl) (by kernel_rfl) (by kernel_rfl) (fun _ _ _ h => h) (by rfl) ?_ (by assumption) ?_; rotate_left; (intro w hSw; (try dsimp only at hSw); go_simp; (first | done | with_reducible rfl)); (try simp only [Act.put, List.setIfInBounds_toArray, List.set_cons_zero, List.set_cons_succ])); (refine Ord.takeH 3 26 (v := ?_) rfl rfl (by kernel_rfl) (by kernel_rfl) (by kernel_rfl) (fun _ _ _ h => h) (by rfl) ?_ (by assumption) ?_; rotate_left; (intro w hSw; (try dsimp only at hSw); go_simp; (first | done | with_reducible rfl)); (try simp only [Act.put, List.setIfInBounds_toArray, List.set_cons_zero, List.set_cons_succ])); (refine Ord.takeH 4 27 (v := ?_) rfl rfl (by kernel_rfl) (by kernel_rfl) (by kernel_rfl) (fun _ _ _ h => h) (by rfl) ?_ (by assumption) ?_; rotate_left; (intro w hSw; (try dsimp only at hSw); go_simp; (first | done | with_reducible rfl)); (try simp only [Act.put, List.setIfInBounds_toArray, List.set_cons_zero, List.set_cons_succ])); (refine Ord.takeH 5 28 (v := ?_) rfl rfl (by kernel_rfl) (by kernel_rfl) (by kernel_rfl) (fun _ _ _ h => h) (by rfl) ?_ (by assumption) ?_; rotate_left; (intro w hSw; (try dsimp only at hSw); go_simp; (first | done | with_reducible rfl)); (try simp only [Act.put, List.setIfInBounds_toArray, List.set_cons_zero, List.set_cons_succ])); (refine Ord.takeH 6 29 (v := ?_) rfl rfl (by kernel_rfl) (by kernel_rfl) (by kernel_rfl) (fun _ _ _ h => h) (by rfl) ?_ (by assumption) ?_; rotate_left; (intro w hSw; (try dsimp only at hSw); go_simp; (first | done | with_reducible rfl)); (try simp only [Act.put, List.setIfInBounds_toArray, List.set_cons_zero, List.set_cons_succ]))
      have hE : Ext w1 w1.drew := (Ext.refl w1).drew
      obtain ⟨V0, hV0⟩ : ∃ V0, V0 = w1.drew := ⟨_, rfl⟩
      rw [← hV0] at hE hHeld ⊢
      clear hV0 c10 c11 c12 c13 c14 c15 c16 c17 c18 d10 d11 d12 d13
      refine wpAnyH_ready (rs := [7, 9]) (by kernel_rfl) (by simp) ?_
      refine (AllReadyH.cons rfl (fun K hK => ?_) (AllReadyH.cons rfl (fun K hK => ?_) AllReadyH.nil))
      · go_simp
        go_at_call 33
        have KC := clone_any (some ⟨b, off, none⟩) cap (ms.take j) V0 (MT.out.ext (X1.out.trans hE)) (by omega) (by omega)
        rw [ht] at KC
        refine KC.mono ?_
        rintro e V1 ⟨v, rfl, OV, hy⟩
        obtain ⟨a1, cap1, rfl, -⟩ := OV.mks MT.out.1
        rw [ht] at OV ⊢
        have zE := Ext.size hE
        replace OV := Lib.hid (show OwnM V1 w1.heap.size (.slice a1 j cap1) (ms.take j) from row_mono OV zE)
        go_wp2_with fail
        have zy := Ext.size hy
        have hE' := hE.trans hy
        refine hK.out _ _ hE' (fun hHeld => ?_)
        clear hK K
        (try simp only [Act.put, List.setIfInBounds_toArray, List.set_cons_zero, List.set_cons_succ])
        replace hE := hE'
        clear hE' hy
        (refine Ord.takeH 8 31 (v := ?_) rfl rfl (by kernel_rfl) (by kernel_rfl) (by kernel_rfl) (fun _ _ _ h => h) (by rfl) ?_ (by assumption) ?_; rotate_left; (intro w hSw; (try dsimp only at hSw); go_simp; (first | done | with_reducible rfl)); (try simp only [Act.put, List.setIfInBounds_toArray, List.set_cons_zero, List.set_cons_succ]))
        refine wpAnyH_ready (rs := [9]) (by kernel_rfl) (by simp) ?_
        refine (AllReadyH.cons rfl (fun K hK => ?_) AllReadyH.nil)
        · go_simp
          have hE' : Ext w1 (V1.alloc (.cells (cellsC zeroL zeroL (.slice none 0 0)).toArray 30)) := hE.alloc _
          refine hK.out _ _ hE' (fun hHeld => ?_)
          clear hK K
          (try simp only [Act.put, List.setIfInBounds_toArray, List.set_cons_zero, List.set_cons_succ])
          have PB := Box.new (w := V1) (n := V1.heap.size) (vs := cellsC zeroL zeroL (.slice none 0 0)) (t := 30) rfl
          have zA := Ext.size hE
          have yA : V1.heap.size < (V1.alloc (.cells (cellsC zeroL zeroL (.slice none 0 0)).toArray 30)).heap.size := by simp
          have NB := Lib.hid (fun (e : (Value.slice a1 j cap1).ownBlock = some V1.heap.size) => show False by have := (World.ownsRow.lt OV.out _ e).2; omega)
          replace OV := Lib.hid (OV.out.ext ((Ext.refl V1).alloc (.cells (cellsC zeroL zeroL (.slice none 0 0)).toArray 30)))
          replace hE := hE'
          clear hE'
          generalize V1.alloc (.cells (cellsC zeroL zeroL (.slice none 0 0)).toArray 30) = V2 at *
          refine wpAnyH_ready (rs := [10]) (by kernel_rfl) (by simp) ?_
          refine AllReadyH.cons rfl (fun K hK => ?_) AllReadyH.nil
          obtain ⟨⟨u0, u1, u2, u3, u4, u5, u6, u7, u8⟩, g0, g1, g2, g3, g4, g5, g6, g7, g8⟩ := Box.nine PB
          go_simp
          have hE' : Ext w1 (Crs.put9 V2 V1.heap.size (.int .i64 l.a) (.int .i64 l.b) (.int .i64 l.c) (.int .i64 l.d) (.int .i64 f.a) (.int .i64 f.b) (.int .i64 f.c) (.int .i64 f.d) (.slice a1 j cap1)) := Ext.put9 hE (by omega) (.int .i64 l.a) (.int .i64 l.b) (.int .i64 l.c) (.int .i64 l.d) (.int .i64 f.a) (.int .i64 f.b) (.int .i64 f.c) (.int .i64 f.d) (.slice a1 j cap1)
          refine hK.out _ _ hE' (fun hHeld => ?_)
          clear hK K
          (try simp only [Act.put, List.setIfInBounds_toArray, List.set_cons_zero, List.set_cons_succ])
          have QB := Box.put9 PB (.int .i64 l.a) (.int .i64 l.b) (.int .i64 l.c) (.int .i64 l.d) (.int .i64 f.a) (.int .i64 f.b) (.int .i64 f.c) (.int .i64 f.d) (.slice a1 j cap1)
          have QO := OV.out.chg (Chg.put9 (n := V1.heap.size) (.int .i64 l.a) (.int .i64 l.b) (.int .i64 l.c) (.int .i64 l.d) (.int .i64 f.a) (.int .i64 f.b) (.int .i64 f.c) (.int .i64 f.d) (.slice a1 j cap1)) NB.out
          refine wpAnyH_done (by kernel_rfl) ?_ _
          go_wp2_with fail
          go_meet
          exact ⟨_, a1, cap1, rfl, QB, QO, by omega, hE'⟩
      · go_simp
        have hE' : Ext w1 (V0.alloc (.cells (cellsC zeroL zeroL (.slice none 0 0)).toArray 30)) := hE.alloc _
        refine hK.out _ _ hE' (fun hHeld => ?_)
        clear hK K
        (try simp only [Act.put, List.setIfInBounds_toArray, List.set_cons_zero, List.set_cons_succ])
        have PB := Box.new (w := V0) (n := V0.heap.size) (vs := cellsC zeroL zeroL (.slice none 0 0)) (t := 30) rfl
        have zA := Ext.size hE
        have yA : V0.heap.size < (V0.alloc (.cells (cellsC zeroL zeroL (.slice none 0 0)).toArray 30)).heap.size := by simp
        replace hE := hE'
        clear hE'
        generalize V0.alloc (.cells (cellsC zeroL zeroL (.slice none 0 0)).toArray 30) = V1 at *
        refine wpAnyH_ready (rs := [7]) (by kernel_rfl) (by simp) ?_
        refine (AllReadyH.cons rfl (fun K hK => ?_) AllReadyH.nil)
        · go_simp
          go_at_call 33
          have KC := clone_any (some ⟨b, off, none⟩) cap (ms.take j) V1 (MT.out.ext (X1.out.trans hE)) (by omega) (by omega)
          rw [ht] at KC
          refine KC.mono ?_
          rintro e V2 ⟨v, rfl, OV, hy⟩
          obtain ⟨a1, cap1, rfl, -⟩ := OV.mks MT.out.1
          rw [ht] at OV ⊢
          have zE := Ext.size hE
          have NB := Lib.hid (OV.block (B := V0.heap.size) (by omega))
          replace OV := Lib.hid (show OwnM V2 w1.heap.size (.slice a1 j cap1) (ms.take j) from row_mono OV zE)
          go_wp2_with fail
          have zy := Ext.size hy
          have hE' := hE.trans hy
          refine hK.out _ _ hE' (fun hHeld => ?_)
          clear hK K
          (try simp only [Act.put, List.setIfInBounds_toArray, List.set_cons_zero, List.set_cons_succ])
          replace PB := Box.ext PB hy
          replace hE := hE'
          clear hE' hy
          (refine Ord.takeH 8 31 (v := ?_) rfl rfl (by kernel_rfl) (by kernel_rfl) (by kernel_rfl) (fun _ _ _ h => h) (by rfl) ?_ (by assumption) ?_; rotate_left; (intro w hSw; (try dsimp only at hSw); go_simp; (first | done | with_reducible rfl)); (try simp only [Act.put, List.setIfInBounds_toArray, List.set_cons_zero, List.set_cons_succ]))
          refine wpAnyH_ready (rs := [10]) (by kernel_rfl) (by simp) ?_
          refine AllReadyH.cons rfl (fun K hK => ?_) AllReadyH.nil
          obtain ⟨⟨u0, u1, u2, u3, u4, u5, u6, u7, u8⟩, g0, g1, g2, g3, g4, g5, g6, g7, g8⟩ := Box.nine PB
          go_simp
          have hE' : Ext w1 (Crs.put9 V2 V0.heap.size (.int .i64 l.a) (.int .i64 l.b) (.int .i64 l.c) (.int .i64 l.d) (.int .i64 f.a) (.int .i64 f.b) (.int .i64 f.c) (.int .i64 f.d) (.slice a1 j cap1)) := Ext.put9 hE (by omega) (.int .i64 l.a) (.int .i64 l.b) (.int .i64 l.c) (.int .i64 l.d) (.int .i64 f.a) (.int .i64 f.b) (.int .i64 f.c) (.int .i64 f.d) (.slice a1 j cap1)
          refine hK.out _ _ hE' (fun hHeld => ?_)
          clear hK K
          (try simp only [Act.put, List.setIfInBounds_toArray, List.set_cons_zero, List.set_cons_succ])
          have QB := Box.put9 PB (.int .i64 l.a) (.int .i64 l.b) (.int .i64 l.c) (.int .i64 l.d) (.int .i64 f.a) (.int .i64 f.b) (.int .i64 f.c) (.int .i64 f.d) (.slice a1 j cap1)
          have QO := OV.out.chg (Chg.put9 (n := V0.heap.size) (.int .i64 l.a) (.int .i64 l.b) (.int .i64 l.c) (.int .i64 l.d) (.int .i64 f.a) (.int .i64 f.b) (.int .i64 f.c) (.int .i64 f.d) (.slice a1 j cap1)) NB.out
          refine wpAnyH_done (by kernel_rfl) ?_ _
          go_wp2_with fail
          go_meet
          exact ⟨_, a1, cap1, rfl, QB, QO, by omega, hE'⟩
    case rest =>
      obtain ⟨B, a1, cap1, rfl, HB, HO, hB, hy⟩ := hcut
      obtain ⟨w3, rfl⟩ : ∃ w3, w3 = wc := ⟨_, rfl⟩
      have HF2 : Mks w3 a1 (ms.take j) := by
        obtain ⟨_, _, e1, F⟩ := HO.mks MT.out.1
        rw [ht] at e1
        cases e1
        exact F
      have HBx := Lib.hid HB
      have HOx := Lib.hid HO
      have X3 := Lib.hid (X1.out.trans hy)
      have z3 := Ext.size hy
      clear HB HO hy c10 c11 c12 c13 c14 c15 c16 c17 c18 d10 d11 d12 d13 e0
      obtain ⟨⟨s0, s1, s2, s3, s4, s5, s6, s7, s8⟩, _⟩ := Box.nine HBx.out
      have KV := courseValid_any l f a1 cap1 (ms.take j) w3 HF2
      rw [ht] at KV
      cases hr : crB l f (ms.take j)
      · go_wp2_with fail
        refine KV.mono ?_
        rw [hr]
        rintro e w4 ⟨rfl, hz⟩
        obtain ⟨⟨h0, h1, h2, h3, h4, h5, h6, h7, h8⟩, f0, f1, f2, f3, f4, f5, f6, f7, f8⟩ := Box.nine (BR.out.ext (X3.out.trans hz))
        have HR := Lib.hid (Box.put9 (BR.out.ext (X3.out.trans hz)) (.int .i64 0) (.int .i64 0) (.int .i64 0) (.int .i64 0) (.int .i64 0) (.int .i64 0) (.int .i64 0) (.int .i64 0) (.slice none 0 0))
        have HX := Lib.hid (Ext.put9 (HW.out.trans (X3.out.trans hz)) (n := w.heap.size + 1 + 1) (by omega) (.int .i64 0) (.int .i64 0) (.int .i64 0) (.int .i64 0) (.int .i64 0) (.int .i64 0) (.int .i64 0) (.int .i64 0) (.slice none 0 0))
        have HC := Lib.hid (show shC l k f ms (j : Int) = 5 by unfold shC; rw [if_pos hq, if_pos (by omega), hT, if_neg (by rw [hr]; decide)])
        go_wp2
        exact shorten_doneI HR.out (ShPost.bad HC.out (by decide) HX.out) rfl rfl
      · go_wp2_with fail
        refine KV.mono ?_
        rw [hr]
        rintro e w4 ⟨rfl, hz⟩
        obtain ⟨⟨s0, s1, s2, s3, s4, s5, s6, s7, s8⟩, _⟩ := Box.nine (HBx.out.ext hz)
        obtain ⟨⟨h0, h1, h2, h3, h4, h5, h6, h7, h8⟩, f0, f1, f2, f3, f4, f5, f6, f7, f8⟩ := Box.nine (BR.out.ext (X3.out.trans hz))
        have HR := Lib.hid (Box.put9 (BR.out.ext (X3.out.trans hz)) (.int .i64 l.a) (.int .i64 l.b) (.int .i64 l.c) (.int .i64 l.d) (.int .i64 f.a) (.int .i64 f.b) (.int .i64 f.c) (.int .i64 f.d) (.slice a1 j cap1))
        have HX := Lib.hid (Ext.put9 (HW.out.trans (X3.out.trans hz)) (n := w.heap.size + 1 + 1) (by omega) (.int .i64 l.a) (.int .i64 l.b) (.int .i64 l.c) (.int .i64 l.d) (.int .i64 f.a) (.int .i64 f.b) (.int .i64 f.c) (.int .i64 f.d) (.slice a1 j cap1))
        have HO := Lib.hid (row_mono ((HOx.out.ext hz).chg (Chg.put9 (.int .i64 l.a) (.int .i64 l.b) (.int .i64 l.c) (.int .i64 l.d) (.int .i64 f.a) (.int .i64 f.b) (.int .i64 f.c) (.int .i64 f.d) (.slice a1 j cap1)) ((HOx.out.ext hz).block (B := w.heap.size + 1 + 1) (by omega))) (show w.heap.size ≤ w1.heap.size by omega))
        have HC := Lib.hid (show shC l k f ms (j : Int) = 0 by unfold shC; rw [if_pos hq, if_pos (by omega), hT, if_pos hr])
        go_wp2
        exact shorten_doneI HR.out (ShPost.good HC.out (by rw [hT]; exact HO.out) HX.out) rfl rfl

end Go.Proofs.Ytiofplgbbbdkfaa.Crs
