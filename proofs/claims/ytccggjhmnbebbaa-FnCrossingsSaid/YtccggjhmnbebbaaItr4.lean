/- listCrossings, CrossingsOf of the program. -/
import Derived.Test.YtccggjhmnbebbaaItr3
import Derived.Test.YtccggjhmnbebbaaCpy
import Derived.OwnWalk
namespace Go.Proofs.Ytccggjhmnbebbaa.Rwk
open Go.ChangeShapes Go.WideShapes Go.ChangeAt Go.RowKit Go.Shelf
open Go.Proofs.Ytccggjhmnbebbaa.Num Go.Proofs.Ytccggjhmnbebbaa.Kit Go.Proofs.Ytccggjhmnbebbaa.Pts Go.Proofs.Ytccggjhmnbebbaa.Seg Go.Proofs.Ytccggjhmnbebbaa.Gcd Go.Proofs.Ytccggjhmnbebbaa.Crs Go.Proofs.Ytccggjhmnbebbaa.Trk
set_option linter.unusedVariables false
set_option linter.unusedSimpArgs false
attribute [local go_sem] Oper.semAt_some


theorem Kp.put {n0 B F o : Nat} {W W' : World} {v : Value} (h : Kp n0 B W W') (h0 : n0 ≤ F) (h1 : B ≠ F) (h2 : B + 1 ≠ F) : Kp n0 B W (W'.setCell ⟨F, o, none⟩ v) :=
  ⟨h.1.setCell (p := ⟨F, o, none⟩) h0 _, (Below.heap_setCell W' ⟨F, o, none⟩ v B h1).trans h.2.1, (Below.heap_setCell W' ⟨F, o, none⟩ v (B + 1) h2).trans h.2.2⟩

set_option maxRecDepth 100000 in
set_option maxHeartbeats 2000000 in
theorem list_any (a0 : Option Addr) (cap : Nat) (fs : List F3) (a b c d : Int) (w : World) (hf : Fxs w a0 fs) (hv : trB fs = true) (hs : sgB a b c d = true) :
    Calls Try.prog 24 #[Tr (.slice a0 fs.length cap), Sg a b c d] w fun e w' => ∃ v, e = .returned v ∧ OwnC w' w.heap.size v (crL fs a b c d (fs.length - 1)) ∧ Ext w w' := by
  have HF := Lib.hid hf
  clear hf
  refine (callsIn_wide (n := 5)).1 ?_
  refine callsIn_of_wp_marks Try.func24 rfl trivial ?_ rfl
  simp only [Try.ntmps24, List.size_toArray, List.length_cons, List.length_nil, Nat.reduceAdd, Nat.reduceSub, Array.replicate_succ, Array.replicate_zero, List.push_toArray, List.append_toArray, List.nil_append, List.cons_append]
  have hz : Try.zeroCells86 = (vsC []).toArray := by kernel_rfl
  obtain ⟨WL, hWL⟩ : ∃ WL, WL = (((((w.alloc (.cells #[.slice a0 fs.length cap] 26)).alloc (.cells #[.int .i64 a, .int .i64 b, .int .i64 c, .int .i64 d] 30)).alloc (.cells Try.zeroCells86 86)).alloc (.cells #[.int .i64 0] 3)).alloc (.cells #[.slice a0 fs.length cap] 26)).alloc (.cells #[.int .i64 a, .int .i64 b, .int .i64 c, .int .i64 d] 30) := ⟨_, rfl⟩
  have hX : Ext w WL := hWL ▸ ((((((Ext.refl w).alloc _).alloc _).alloc _).alloc _).alloc _).alloc _
  have bF : Box WL (w.heap.size + 1 + 1) (vsC []) := by rw [hWL, hz]; exact (((Box.new (by simp)).alloc _).alloc _).alloc _
  have bN : Box WL (w.heap.size + 1 + 1 + 1) [.int .i64 ((([] : List C5).length : Nat) : Int)] := by rw [hWL]; exact ((Box.new (vs := [.int .i64 0]) (by simp)).alloc _).alloc _
  have k0 : WL.cell? ⟨w.heap.size + 1 + 1 + 1 + 1, 0, none⟩ = some (.slice a0 fs.length cap) := by rw [hWL]; exact ((Ext.refl _).alloc _).cellOf (boxed 0 rfl (by simp))
  have k1 : ∀ i v, (#[.int .i64 a, .int .i64 b, .int .i64 c, .int .i64 d] : Array Value)[i]? = some v → WL.cell? ⟨w.heap.size + 1 + 1 + 1 + 1 + 1, i, none⟩ = some v := fun i v hv => by rw [hWL]; exact boxed i hv (by simp)
  have hsz : WL.heap.size = w.heap.size + 6 := by rw [hWL]; simp
  clear hz
  gi_wp2_with (refine ⟨trivial, ?_⟩; gi_at_call 32; refine (callsIn_wide.2 (crossings_any _ _ _ _ _ _)).mono ?_; rintro e w3 ⟨rfl, rfl⟩)
  rw [← hWL]
  clear hWL
  obtain ⟨ti, hin, hz0, hz1, hz2⟩ := info_parts crossInfo
  refine wpIn_rangeFunc_ownH rfl (by omega) (gf := 57) (lb := #[.pointer (some ⟨w.heap.size + 1 + 1 + 1 + 1, 0, none⟩), .pointer (some ⟨w.heap.size + 1 + 1 + 1 + 1 + 1, 0, none⟩)]) rfl trivial (enters_of Try.func57 (by kernel_rfl) rfl)
    (crossings_stops (5 - 1) (by omega) (w.heap.size + 1 + 1 + 1 + 1) w a0 cap fs a b c d HF.out hv hs WL hX (by omega) (by omega) k0 (k1 0 _ rfl) (k1 1 _ rfl) (k1 2 _ rfl) (k1 3 _ rfl)) (fun h k => h.trans k) (kp_b (by omega) (by omega)) (Below.refl _ _) (fun _ => rfl)
    (fun pre W => ((Box W (w.heap.size + 1 + 1) (vsC pre) ∧ Box W (w.heap.size + 1 + 1 + 1) [.int .i64 (pre.length : Int)]) ∧ w.heap.size + 6 ≤ W.heap.size) ∧ Below w.heap.size w W)
    (fun _ _ _ => False)
    (OwnFrom.and (OwnFrom.and (OwnFrom.and (Own.from (box_own _ _) _) (Own.from (box_own _ _) _)) (fun _ _ _ _ hs hg _ => Nat.le_trans hs hg.size)) (ownFrom_below (Nat.le_refl _) (by omega)))
    (fun _ _ _ _ _ hs _ _ => hs)
    ⟨⟨⟨bF, bN⟩, by omega⟩, hX⟩
    (fun x a' W => ∃ Bx, w.heap.size + 1 + 1 + 1 < Bx ∧ VC W Bx x ∧ a' = { tmps := #[Tr (.slice a0 fs.length cap), Sg a b c d, .pointer (some ⟨w.heap.size, 0, none⟩), .pointer (some ⟨w.heap.size + 1, 0, none⟩), .slice none 0 0, .pointer (some ⟨w.heap.size + 1 + 1, 0, none⟩), .pointer (some ⟨w.heap.size + 1 + 1 + 1, 0, none⟩), .pointer (some ⟨Bx, 0, none⟩), undef,
      .agg #[.slice a0 fs.length cap], Sg a b c d, .func (.func 57) #[] #[.pointer (some ⟨w.heap.size + 1 + 1 + 1 + 1, 0, none⟩), .pointer (some ⟨w.heap.size + 1 + 1 + 1 + 1 + 1, 0, none⟩)], CrV x, undef, undef, undef, undef, undef, undef, undef, undef, undef, undef, undef, undef], defers := [] })
    (fun x a' _ X Y row hs hg hr => by obtain ⟨Bx, h1, h2, h3⟩ := hs; exact ⟨Bx, h1, fun i v hv => cell_kept (h2 i v hv) hg (fun r e => (hr r e).2), h3⟩)
    ?assign ?body ?done ?stop
  case assign =>
    rintro l pre x W K ⟨⟨⟨b1, b2⟩, hsz1⟩, hB1⟩ hK
    gi_wp2
    exact hK _ _ ((KeepsOthers.alloc _ _).from _) (Kp.ext ((Ext.refl W).alloc _) hB1.size (by omega)) ⟨⟨⟨b1.alloc _, b2.alloc _⟩, by simp; omega⟩, hB1.alloc hB1.size _⟩ ⟨W.heap.size, by omega, VC.new W x _, rfl⟩
  case body =>
    rintro l pre x a' W hl ⟨r, hr⟩ ⟨⟨⟨b1, b2⟩, hsz1⟩, hB1⟩ ⟨Bx, hBx, bX, rfl⟩ hlt
    have v0 := bX 0 _ rfl
    have v1 := bX 1 _ rfl
    have v2 := bX 2 _ rfl
    have v3 := bX 3 _ rfl
    have v4 := bX 4 _ rfl
    have q0 := (b2 0 _ rfl).1
    have q1 := (b2 0 _ rfl).2
    obtain ⟨r0, s0⟩ := b1 _ _ (vsC_zero pre hlt 0 (by omega))
    obtain ⟨r1, s1⟩ := b1 _ _ (vsC_zero pre hlt 1 (by omega))
    obtain ⟨r2, s2⟩ := b1 _ _ (vsC_zero pre hlt 2 (by omega))
    obtain ⟨r3, s3⟩ := b1 _ _ (vsC_zero pre hlt 3 (by omega))
    obtain ⟨r4, s4⟩ := b1 _ _ (vsC_zero pre hlt 4 (by omega))
    replace r0 : W.cell? ⟨w.heap.size + 1 + 1, pre.length * 5, none⟩ = some (.int .i64 0) := r0
    replace s0 : W.frozen? ⟨w.heap.size + 1 + 1, pre.length * 5, none⟩ = false := s0
    have hlen := vsC_len pre (by omega)
    have HL := Lib.hid hlen
    have HB := Lib.hid (And.intro b1 b2)
    have KF : ∀ {B : Nat} (X : World) (p : Addr) (v : Value), KeepsFrom B W X → KeepsFrom B W (X.setCell p v) := fun X p v h => h.trans ((KeepsOthers.setCell _ _ _).from _)
    have KB : ∀ (X : World) (B o : Nat) (v : Value), w.heap.size ≤ B → Below w.heap.size w X → Below w.heap.size w (X.setCell ⟨B, o, none⟩ v) := fun X B o v h1 h2 => h2.setCell (p := ⟨B, o, none⟩) h1 v
    have i0 : (0 : Int) ≤ (pre.length : Int) := by omega
    have i1 : (pre.length : Int) < 39 := by omega
    have E1 : IntKind.i64.wrap ((pre.length : Int) + 1) = (pre.length : Int) + 1 := IntWalk.i64_in _ (by omega)
    clear b1 b2 hlen
    gi_wp2
    refine ⟨KF _ _ _ (KF _ _ _ (KF _ _ _ (KF _ _ _ (KF _ _ _ (KF _ _ _ (KeepsFrom.refl _ _)))))), Rwk.Kp.put (Rwk.Kp.put (Rwk.Kp.put (Rwk.Kp.put (Rwk.Kp.put (Rwk.Kp.put (Kp.refl _ _ W) (by omega) (by omega) (by omega)) (by omega) (by omega) (by omega)) (by omega) (by omega) (by omega)) (by omega) (by omega) (by omega)) (by omega) (by omega) (by omega)) (by omega) (by omega) (by omega), ⟨⟨?_, ?_⟩, by simpa using hsz1⟩, KB _ _ _ _ (by omega) (KB _ _ _ _ (by omega) (KB _ _ _ _ (by omega) (KB _ _ _ _ (by omega) (KB _ _ _ _ (by omega) (KB _ _ _ _ (by omega) hB1)))))⟩
    · rw [← vsC_set pre x hlt]
      exact ((((((HB.out.1.set (pre.length * 5) (by rw [HL.out]; omega) _).set (pre.length * 5 + 1) (by simp [HL.out]; omega) _).set (pre.length * 5 + 2) (by simp [HL.out]; omega) _).set (pre.length * 5 + 3) (by simp [HL.out]; omega) _).set (pre.length * 5 + 4) (by simp [HL.out]; omega) _)).away (by simp) _
    · rw [show ((pre ++ [x]).length : Int) = (pre.length : Int) + 1 by simp]
      exact ((((((HB.out.2.away (by simp) _).away (by simp) _).away (by simp) _).away (by simp) _).away (by simp) _).set 0 (by simp) _)
  case done =>
    rintro D ys W hD rfl ⟨⟨⟨b1, b2⟩, hsz1⟩, hB1⟩ hK
    rename_i K0 hK0
    refine hK0 _ _ ?_
    clear hK0
    have hlen := crL_len fs a b c d (fs.length - 1)
    obtain ⟨⟨h2, h40⟩, _⟩ := trB_yes hv
    have q0 := (b2 0 _ rfl).1
    have HB := Lib.hid (And.intro b1 b2)
    obtain ⟨ys, hys⟩ : ∃ ys, ys = crL fs a b c d (fs.length - 1) := ⟨_, rfl⟩
    rw [← hys] at HB hlen q0
    have HYS := Lib.hid hys
    clear hys
    have i0 : (0 : Int) ≤ (ys.length : Int) := by omega
    have i1 : (ys.length : Int) ≤ 39 := by omega
    clear b1 b2
    refine wpIn_wide.2 ?_
    go_wp2_with first
      | (at_make; refine wpList_make_full _ rfl _ _ 33 rfl W.heap.size 42 ti (Cr 0 0 0 0 0) 5 Try.underlying33 hin hz0 hz1 _ _ _ _ ys.length rfl rfl rfl rfl (by rw [hz2]; omega) (by unfold maxLen; omega) (Nat.le_refl _) ?_; intro w5 hown hgrow
         rcases hown.2 with ⟨hw, _⟩ | ⟨g, cp, cur, hw, hb, hg, hc, hm, hs, _⟩
         · cases hw
         simp at hw
         obtain ⟨rfl, rfl⟩ := hw
         have HG := Lib.hid hg
         have HS := Lib.hid hs
         have X5 := Lib.hid (Ext.grown hgrow)
         replace q0 := X5.out.cellOf q0
         have SRC5 := Lib.hid (fun j v (h : (cellsC ys)[j]? = some v) => (show w5.cell? ((⟨w.heap.size + 1 + 1, 0, none⟩ : Addr).add j) = some v from by rw [show (⟨w.heap.size + 1 + 1, 0, none⟩ : Addr).add j = ⟨w.heap.size + 1 + 1, j, none⟩ by simp [Addr.add]; omega]; exact X5.out.cellOf (HB.out.1 j v (vsC_get ys j v h)).1))
         clear hg hs hown hgrow hb hc hm)
      | (with_reducible refine wpList_copy5 rfl (.tmp 20) (.tmp 22) 33 33 rfl 42 Try.underlying33 ti hin hz1 W.heap.size 0 _ _ ⟨w.heap.size + 1 + 1, 0, none⟩ _ _ rfl rfl cur 42 HG.out (cellsC ys) (by rw [cellsC_len]; simp) SRC5.out (by rw [HS.out, cellsC_len]; omega) (cellsC_one ys) ?_)
    have hDl : D < W.heap.size := (Array.getElem?_eq_some_iff.1 hK).1
    have O5 := own_copied (base := w.heap.size) (cs := ys) HG.out (Below.size hB1) rfl HS.out (by unfold maxLen; omega)
    have hK6 := (setRow_other w5 W.heap.size D (cellsC ys ++ List.drop (cellsC ys).length cur.toList).toArray (by omega)).trans ((Below.block X5.out D hDl).trans hK)
    have hB6 : Below w.heap.size w (w5.setRow W.heap.size (cellsC ys ++ List.drop (cellsC ys).length cur.toList).toArray) := below_setRow (hB1.trans (Below.mono X5.out (Below.size hB1))) (Below.size hB1) _
    refine ⟨by simp, .inl ⟨_, _, rfl, run_takeDeferred hK6, ?_⟩⟩
    refine ⟨_, results_tmp rfl _ _ _, ⟨_, rfl, ?_, hB6.trans (belowK_b (w := w) (Nat.le_refl _) _ D _ _ (by omega) hK6 rfl rfl)⟩⟩
    rw [← HYS.out]
    exact World.ownsRow.kept O5 (row := some D) (grownBy_putObj' _ D (.deferred none)) (.inr (by simp [Value.ownBlock]; omega))
  case stop =>
    rintro D co pre W _ _ h _
    exact h.elim

end Go.Proofs.Ytccggjhmnbebbaa.Rwk
