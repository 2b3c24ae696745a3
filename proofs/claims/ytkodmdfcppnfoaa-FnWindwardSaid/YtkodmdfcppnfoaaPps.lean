/- Rows of points that came in: reading them, and the contracts of the conversions and comparisons that the exact laws use. -/
import Derived.Test.YtkodmdfcppnfoaaMnv
import Derived.Test.YtkodmdfcppnfoaaSeg
import Derived.Deep.QuietTactic
import Derived.BigQuiet
import Derived.Lib.SmallJoins
import Derived.OpenShut
import Derived.Deep.Slices
import Derived.Deep.Fields
import Derived.ChangeSame
namespace Go.Proofs.Ytkodmdfcppnfoaa.Mnv
open Go.ChangeShapes Go.WideShapes Go.ChangeAt Go.RowKit Go.Deep
open Go.Proofs.Ytkodmdfcppnfoaa.Num Go.Proofs.Ytkodmdfcppnfoaa.Kit Go.Proofs.Ytkodmdfcppnfoaa.Pts Go.Proofs.Ytkodmdfcppnfoaa.Seg
set_option linter.unusedVariables false
set_option linter.unusedSimpArgs false

theorem px_snoc (fs : List M2) (f : M2) (i : Nat) : px (fs ++ [f]) i = if i < fs.length then px fs i else if i = fs.length then f else ⟨0, 0⟩ := by
  unfold px
  rw [List.getD_eq_getElem?_getD, List.getD_eq_getElem?_getD, List.getElem?_append]
  by_cases h : i < fs.length
  · rw [if_pos h, if_pos h]
  · rw [if_neg h, if_neg h]
    by_cases h2 : i = fs.length
    · subst h2; simp
    · rw [if_neg h2, List.getElem?_eq_none (by simp; omega)]; rfl

theorem gather2 {w : World} {b off : Nat} : ∀ n : Nat, (∀ i, i < n → ∃ f : M2, PAt w b (off + i * 2) f) → ∃ fs : List M2, fs.length = n ∧ ∀ i, i < n → PAt w b (off + i * 2) (px fs i)
  | 0, _ => ⟨[], rfl, fun i hi => absurd hi (by omega)⟩
  | n + 1, h => by
    obtain ⟨fs, hl, hf⟩ := gather2 n (fun i hi => h i (by omega))
    obtain ⟨f, g⟩ := h n (by omega)
    refine ⟨fs ++ [f], by simp [hl], fun i hi => ?_⟩
    rw [px_snoc]
    by_cases h1 : i < fs.length
    · rw [if_pos h1]; exact hf i (by omega)
    · obtain rfl : i = n := by omega
      rw [if_neg h1, if_pos hl.symm]; exact g

theorem open_pairs {H : Type} {enc : TypeId × Value → H} {P : Program} {w : World} {base : Nat} {spare : Nat → Bool} {held : Bool} {r : Reach} {bb : Nat} {t e : TypeId} {g0 g1 : Field} {v : Value} {d : DataW H} {p : List MemPlace}
    (ht : P.underlying t = some (.slice e)) (he : P.underlying e = some (.struct #[g0, g1])) (hC : P.cellsOf e = 2) (hone : oneCellFields P #[g0, g1] = true)
    (i0 : P.underlying g0.type = some (.int .i64)) (i1 : P.underlying g1.type = some (.int .i64))
    (hv0 : Value.okWide P w r bb t v) (h0 : DataW.Trod enc P w base spare held t v d p) : ∃ (a : Option Addr) (cap : Nat) (fs : List M2), v = .slice a fs.length cap ∧ Mxs w a fs := by
  obtain ⟨fuel, h1⟩ := h0
  obtain ⟨a1, len1, cap1, rfl⟩ := okWide_slice ht hv0
  have h : DataW.trod enc P w base spare held fuel t [.slice a1 len1 cap1] = some (d, p) := h1
  rcases open_slice ht h with ⟨hv, _⟩ | ⟨a, len, cap, m, n, D, Pl, hcs, _, hl, hm, hmm, _, hi⟩
  · simp at hv; exact ⟨none, 0, [], by simp [hv], by simp [Mxs]⟩
  · simp at hcs
    have hlm : len ≤ m := by rw [hmm]; split <;> omega
    rw [hC] at hi
    rcases Nat.eq_zero_or_pos len with h0 | hp
    · subst h0; exact ⟨some a, cap, [], by simpa using hcs, by simp [Mxs]⟩
    · have each : ∀ i, i < len → ∃ f : M2, w.cell? (a.add (i * 2)) = some (.int .i64 f.x) ∧ w.cell? (a.add (i * 2 + 1)) = some (.int .i64 f.y) := by
        intro i hil
        obtain ⟨cs, hc, hd⟩ := hi i (by omega)
        obtain ⟨_, hcl, hat⟩ := World.cells?_some hc
        obtain ⟨ys, n', _, _, _, hyl, hg⟩ := DataW.trod_struct he hd
        obtain ⟨l0, l1, rfl⟩ : ∃ l0 l1, cs = [l0, l1] := by
          match cs, hcl with
          | [l0, l1], _ => exact ⟨l0, l1, rfl⟩
        obtain ⟨a0, b0⟩ := hone_of hone 0 g0 rfl
        obtain ⟨a1, b1⟩ := hone_of hone 1 g1 rfl
        have r0 := hg 0 g0 rfl
        have r1 := hg 1 g1 rfl
        have hx : ∀ j, j < 2 → ∃ y, ys[j]? = some y := fun j hj => ⟨_, List.getElem?_eq_getElem (by simp at hyl; omega)⟩
        obtain ⟨y0, e0⟩ := hx 0 (by omega)
        obtain ⟨y1, e1⟩ := hx 1 (by omega)
        rw [e0] at r0
        rw [e1] at r1
        simp [a0, b0] at r0
        simp [a1, b1] at r1
        obtain ⟨z0, q0, _, _⟩ := DataW.trod_int i0 r0
        obtain ⟨z1, q1, _, _⟩ := DataW.trod_int i1 r1
        simp at q0 q1
        subst q0 q1
        refine ⟨⟨z0, z1⟩, ?_, ?_⟩
        · have := hat 0 (by omega); simpa [add_add] using this
        · have := hat 1 (by omega); simpa [add_add] using this
      obtain ⟨b, off, spot⟩ := a
      obtain ⟨f, hf, _⟩ := each 0 hp
      have hspot : spot = none := by simpa [Addr.add] using World.cell?_spot hf
      subst hspot
      obtain ⟨fs, hfl, hfs⟩ := gather2 (w := w) (b := b) (off := off) len (fun i hil => by
        obtain ⟨f, g0, g1⟩ := each i hil
        rw [add_plain] at g0 g1
        exact ⟨f, g0, by rw [Nat.add_assoc]; exact g1⟩)
      subst hfl
      exact ⟨_, cap, fs, by simpa using hcs, by omega, .inr ⟨b, off, rfl, hfs⟩⟩

/-- What is left of a bound behind a slice's length. -/
def szL (m : Int) (len : Nat) : Int := if m - len < 0 then -1 else m - len
theorem szL_neg {m : Int} {len : Nat} (h : m - len < 0) : szL m len = -1 := if_pos h
theorem szL_pos {m : Int} {len : Nat} (h : ¬ m - len < 0) : szL m len = m - len := if_neg h
theorem szPointS_any (a : Option Addr) (len cap : Nat) (m : Int) (w : World) (hl : len ≤ maxLen) (h0 : 0 ≤ m) (hm : m ≤ 1048576) :
    Calls Try.prog 42 #[.slice a len cap, .int .i64 m] w fun e w' => e = .returned (.int .i64 (szL m len)) ∧ w = w' := by
  unfold maxLen at hl
  by_cases h : m - len < 0
  · have H := Lib.hid (szL_neg h)
    go_enter Try.func42, Try.ntmps42
    go_wp2
    go_ret
    exact ⟨ret_int H.out, rfl⟩
  · have H := Lib.hid (szL_pos h)
    go_enter Try.func42, Try.ntmps42
    go_wp2
    go_ret
    exact ⟨ret_int H.out, rfl⟩

/-- Block B holds the points of a list one behind the other, and may be written. -/
def Own2 (w : World) (B : Nat) (ps : List M2) : Prop := ∀ i, i < ps.length → PAt w B (i * 2) (px ps i) ∧ w.frozen? ⟨B, i * 2, none⟩ = false ∧ w.frozen? ⟨B, i * 2 + 1, none⟩ = false
theorem Own2.ext {w w' : World} {B : Nat} {ps : List M2} (h : Own2 w B ps) (k : Ext w w') : Own2 w' B ps :=
  fun i hi => ⟨(h i hi).1.ext k, k.thawOf (h i hi).1.1 (h i hi).2.1, k.thawOf (h i hi).1.2 (h i hi).2.2⟩
theorem Own2.mxs {w : World} {B : Nat} {ps : List M2} (h : Own2 w B ps) (hl : ps.length ≤ maxLen) : Mxs w (some ⟨B, 0, none⟩) ps :=
  ⟨hl, .inr ⟨B, 0, rfl, fun i hi => by rw [Nat.zero_add]; exact (h i hi).1⟩⟩
/-- What toPointS leaves: a new row of the same points. -/
def NewP (w : World) (ps : List M2) (e : Ending) (w' : World) : Prop := ∃ B, e = .returned (.slice (some ⟨B, 0, none⟩) ps.length ps.length) ∧ w.heap.size ≤ B ∧ Own2 w' B ps ∧ Ext w w'
def RelT2 (w : World) (ps : List M2) (i : Value) (wr : World) : Prop :=
  ∃ k : Nat, i = .int .i64 k ∧ k ≤ ps.length ∧ (∀ j, j < ps.length * 2 → (∃ v, wr.cell? ⟨w.heap.size, j, none⟩ = some v) ∧ wr.frozen? ⟨w.heap.size, j, none⟩ = false) ∧ (∀ j, j < k → PAt wr w.heap.size (j * 2) (px ps j)) ∧ Ext w wr
theorem RelT2.step {w wr w2 : World} {ps : List M2} {k : Nat} (hk : k < ps.length) (hc : ∀ j, j < ps.length * 2 → (∃ v, wr.cell? ⟨w.heap.size, j, none⟩ = some v) ∧ wr.frozen? ⟨w.heap.size, j, none⟩ = false)
    (hd : ∀ j, j < k → PAt wr w.heap.size (j * 2) (px ps j)) (hx : Ext w wr) (hy : Ext wr w2) :
    RelT2 w ps (.int .i64 (k + 1)) ((w2.setCell ⟨w.heap.size, k * 2, none⟩ (.int .i64 (px ps k).x)).setCell ⟨w.heap.size, k * 2 + 1, none⟩ (.int .i64 (px ps k).y)) := by
  obtain ⟨⟨v0, d0⟩, f0⟩ := hc (k * 2) (by omega)
  obtain ⟨⟨v1, d1⟩, f1⟩ := hc (k * 2 + 1) (by omega)
  refine ⟨k + 1, by go_num, by omega, fun j hj => ?_, fun j hj => ?_, ?_⟩
  · obtain ⟨⟨v, hv⟩, hf⟩ := hc j hj
    refine ⟨?_, by simp only [World.frozen?_setCell]; exact hy.thawOf hv hf⟩
    by_cases h1 : k * 2 + 1 = j
    · subst h1; exact ⟨_, World.cell?_setCell_same _ _ _ (by rw [set_other _ _ _ _ _ (by omega)]; exact hy.cellOf d1)⟩
    · rw [set_other _ _ _ _ _ h1]
      by_cases h0 : k * 2 = j
      · subst h0; exact ⟨_, World.cell?_setCell_same _ _ _ (hy.cellOf d0)⟩
      · rw [set_other _ _ _ _ _ h0]; exact ⟨_, hy.cellOf hv⟩
  · by_cases h : j = k
    · subst h
      refine ⟨?_, ?_⟩
      · rw [set_other _ _ _ _ _ (by omega)]; exact World.cell?_setCell_same _ _ _ (hy.cellOf d0)
      · exact World.cell?_setCell_same _ _ _ (by rw [set_other _ _ _ _ _ (by omega)]; exact hy.cellOf d1)
    · obtain ⟨g0, g1⟩ := (hd j (by omega)).ext hy
      refine ⟨?_, ?_⟩
      all_goals
        rw [set_other _ _ _ _ _ (by omega), set_other _ _ _ _ _ (by omega)]; assumption
  · exact ((hx.trans hy).setNew (Nat.le_refl _) _).setNew (Nat.le_refl _) _

theorem pointInfo : (Try.prog.info? 26).map (fun i => (i.zero, i.size, i.bytes)) = some (some (Pt 0 0), 2, 16) := by kernel_rfl
theorem madeAt2 {w' : World} {e : TypeId} {n b g : Nat} {z : Value} (h : w'.ownsRow b e 2 (.slice (some ⟨g, 0, none⟩) n n) n (madeCells z.cells (n * 2)).toList) (j : Nat) (hj : j < n * 2) :
    (∃ v, w'.cell? ⟨g, j, none⟩ = some v) ∧ w'.frozen? ⟨g, j, none⟩ = false := by
  refine ⟨?_, h.frozenAt j⟩
  rw [h.cellAt j hj]
  exact ⟨_, List.getElem?_eq_getElem (by simpa [size_madeCells] using hj)⟩
theorem grown_none {w w' : World} (h : w.grownBy w' none) : Ext w w' := by
  obtain ⟨h1, h2, h3, h4, h5⟩ := h
  exact ⟨h1, h2, h3, h4, fun i hi => h5 i hi (by simp)⟩

set_option maxHeartbeats 400000 in
theorem toPointS_any (a : Option Addr) (cap : Nat) (ps : List M2) (w : World) (hf : Mxs w a ps) (hl : ps.length ≤ 1048576) : Calls Try.prog 43 #[.slice a ps.length cap] w (NewP w ps) := by
  have HF := Lib.hid hf
  have hm : ps.length ≤ 1000000000 := by omega
  clear hf hl
  obtain ⟨i0, hi, hz0, hz1, hz2⟩ := info_parts pointInfo
  go_enter Try.func43, Try.ntmps43
  go_wp2_with (at_make; refine wpList_make_full _ rfl _ _ 47 rfl w.heap.size 26 i0 (Pt 0 0) 2 Try.underlying47 hi hz0 hz1 _ _ _ _ ps.length rfl rfl rfl rfl (by rw [hz2]; omega) (by unfold maxLen; omega) (Nat.le_refl _) ?_; intro w1 hown hgrow)
  have HO := Lib.hid hown
  have HG := Lib.hid (grown_none hgrow)
  clear hown hgrow
  go_loopw [4] (fun i wr => RelT2 w ps i wr) (fun i _ => ps.length - (intOf i).toNat)
  case atStart => exact ⟨0, rfl, Nat.zero_le _, fun j hj => madeAt2 HO.out j hj, fun j hj => absurd hj (by omega), HG.out⟩
  case round =>
    obtain ⟨k, rfl, hk, hc, hd, hx⟩ := hrel
    have HC := Lib.hid hc
    have HD := Lib.hid hd
    have HX := Lib.hid hx
    clear hc hd hx
    by_cases hk1 : k < ps.length
    · obtain ⟨b, off, rfl, hb⟩ := HF.out.row (by omega)
      obtain ⟨c0, c1⟩ := (hb k hk1).ext HX.out
      clear hb
      go_wp2_with fail
      refine (toPoint_any _ _ _).mono ?_
      rintro e w2 ⟨rfl, hy⟩
      obtain ⟨⟨v0, d0⟩, f0⟩ := HC.out (k * 2) (by omega)
      obtain ⟨⟨v1, d1⟩, f1⟩ := HC.out (k * 2 + 1) (by omega)
      replace f0 := hy.thawOf d0 f0
      replace f1 := hy.thawOf d1 f1
      replace d0 := hy.cellOf d0
      replace d1 := hy.cellOf d1
      have HY := Lib.hid hy
      clear hy c0 c1
      go_wp2
      go_roundw
      case rel => exact RelT2.step hk1 HC.out HD.out HX.out HY.out
      case measure => simp [intOf]; omega
    · obtain rfl : k = ps.length := by omega
      go_wp2
      go_ret
      exact ⟨w.heap.size, rfl, Nat.le_refl _, fun j hj => ⟨HD.out j hj, (HC.out _ (by omega)).2, (HC.out _ (by omega)).2⟩, HX.out⟩

set_option maxHeartbeats 800000 in
theorem eqPointS_same (a b : Option Addr) (cap cap' : Nat) (ps : List M2) (w : World) (ha : Mxs w a ps) (hb : Mxs w b ps) : Calls Try.prog 44 #[.slice a ps.length cap, .slice b ps.length cap'] w fun e w' => e = .returned (.bool true) ∧ Ext w w' := by
  have hm := ha.1
  unfold maxLen at hm
  have HA := Lib.hid ha
  have HB := Lib.hid hb
  clear ha hb
  go_enter Try.func44, Try.ntmps44
  go_wp2
  go_loopw [5] (fun i wr => RelE w ps.length i wr) (fun i _ => ps.length - (intOf i).toNat)
  case atStart => exact ⟨0, rfl, Nat.zero_le _, Ext.refl _⟩
  case round =>
    obtain ⟨k, rfl, hk, hx⟩ := hrel
    have HX := Lib.hid hx
    clear hx
    by_cases hk1 : k < ps.length
    · obtain ⟨b1, o1, rfl, h1⟩ := HA.out.row (by omega)
      obtain ⟨b2, o2, rfl, h2⟩ := HB.out.row (by omega)
      obtain ⟨c0, c1⟩ := (h1 k hk1).ext HX.out
      obtain ⟨d0, d1⟩ := (h2 k hk1).ext HX.out
      clear h1 h2
      have i0 : (0 : Int) ≤ (k : Int) := by omega
      have i1 : (k : Int) < (ps.length : Int) := by omega
      go_wp2_with fail
      refine wp_region_held_drew (S := (fun w' => w'.cell? ⟨b1, o1 + k * 2, none⟩ = some (.int .i64 (px ps k).x) ∧ w'.cell? ⟨b1, o1 + k * 2 + 1, none⟩ = some (.int .i64 (px ps k).y) ∧ w'.cell? ⟨b2, o2 + k * 2, none⟩ = some (.int .i64 (px ps k).x) ∧ w'.cell? ⟨b2, o2 + k * 2 + 1, none⟩ = some (.int .i64 (px ps k).y))) (by kernel_rfl) (by (try dsimp only); first | go_keep | exact (Ext.refl _).drew | exact Res.new2.drew | exact Res.new4.drew | exact ResB.drew (by assumption) | exact ResC.drew (by assumption) | assumption | exact Ext.drew (by assumption) | exact Res.drew (by assumption)) (fun hHeld => ?_)
      (refine Ord.k 0 17 (v := ?_) ?_ ?_; rotate_left; (intro w h; (try dsimp only at h); go_simp; (try with_reducible rfl)); (try simp only [Act.put, Ord.a, Ord.b, Ord.c]))
      (refine Ord.k 1 18 (v := ?_) ?_ ?_; rotate_left; (intro w h; (try dsimp only at h); go_simp; (try with_reducible rfl)); (try simp only [Act.put, Ord.a, Ord.b, Ord.c]))
      (refine Ord.k 2 19 (v := ?_) ?_ ?_; rotate_left; (intro w h; (try dsimp only at h); go_simp; (try with_reducible rfl)); (try simp only [Act.put, Ord.a, Ord.b, Ord.c]))
      (refine Ord.k 3 20 (v := ?_) ?_ ?_; rotate_left; (intro w h; (try dsimp only at h); go_simp; (try with_reducible rfl)); (try simp only [Act.put, Ord.a, Ord.b, Ord.c]))
      (refine Ord.k 4 21 (v := ?_) ?_ ?_; rotate_left; (intro w h; (try dsimp only at h); go_simp; (try with_reducible rfl)); (try simp only [Act.put, Ord.a, Ord.b, Ord.c]))
      (refine Ord.k 5 22 (v := ?_) ?_ ?_; rotate_left; (intro w h; (try dsimp only at h); go_simp; (try with_reducible rfl)); (try simp only [Act.put, Ord.a, Ord.b, Ord.c]))
      (refine Ord.k 6 23 (v := ?_) ?_ ?_; rotate_left; (intro w h; (try dsimp only at h); go_simp; (try with_reducible rfl)); (try simp only [Act.put, Ord.a, Ord.b, Ord.c]))
      (refine Ord.k 7 24 (v := ?_) ?_ ?_; rotate_left; (intro w h; (try dsimp only at h); go_simp; (try with_reducible rfl)); (try simp only [Act.put, Ord.a, Ord.b, Ord.c]))
      (refine wpAnyH_ready (rs := [8]) (by kernel_rfl) (by simp) ?_; refine AllReadyH.cons rfl (fun K hK => ?_) AllReadyH.nil; go_simp; (go_at_call 83; refine (eqPoint_same _ _ _).mono ?_; rintro e w1 ⟨rfl, hy⟩); go_wp2_with fail; (refine hK.out _ _ (by first | assumption | exact Ext.trans (by assumption) hy | exact Res.ext (by assumption) hy | exact ResB.ext (by assumption) hy | exact ResC.ext (by assumption) hy | (go_split_ands; (repeat' apply And.intro) <;> exact Ext.cellOf hy (by assumption))) (fun hHeld => ?_)); clear hK K; (try simp only [Act.put, Ord.a, Ord.b, Ord.c]))
      (refine Ord.k 9 26 (v := ?_) ?_ ?_; rotate_left; (intro w h; (try dsimp only at h); go_simp; (try with_reducible rfl)); (try simp only [Act.put, Ord.a, Ord.b, Ord.c]))
      refine wpAnyH_done (by kernel_rfl) ?_ _
      have HX2 := Lib.hid (HX.out.drew.trans hy)
      clear hy c0 c1 d0 d1
      go_wp2
      go_roundw
      case rel => exact ⟨k + 1, by go_num, by omega, HX2.out⟩
      case measure => simp [intOf]; omega
    · obtain rfl : k = ps.length := by omega
      go_wp2
      go_ret
      exact ⟨rfl, HX.out⟩


end Go.Proofs.Ytkodmdfcppnfoaa.Mnv
