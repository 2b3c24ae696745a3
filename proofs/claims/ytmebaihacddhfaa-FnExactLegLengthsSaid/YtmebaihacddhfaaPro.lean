/- Rows of points that a call made: comparing, marking, looking whether the marks are held (laws). -/
import Derived.Test.YtmebaihacddhfaaSta4
import Derived.Test.YtmebaihacddhfaaOrd
namespace Go.Proofs.Ytmebaihacddhfaa.Crs
open Go.ChangeShapes Go.WideShapes Go.ChangeAt Go.RowKit Go.PlainAid
open Go.Proofs.Ytmebaihacddhfaa.Num Go.Proofs.Ytmebaihacddhfaa.Kit Go.Proofs.Ytmebaihacddhfaa.Pts Go.Proofs.Ytmebaihacddhfaa.Seg
set_option linter.unusedVariables false
set_option linter.unusedSimpArgs false

/-- The point number i of a list. -/
def px (ps : List P2) (i : Nat) : P2 := ps.getD i ⟨0, 0⟩
theorem px_at {ps : List P2} {i : Nat} (h : i < ps.length) : ps[i]? = some (px ps i) := by
  unfold px
  rw [List.getD_eq_getElem?_getD, List.getElem?_eq_getElem h]; rfl
def PAt (w : World) (b o : Nat) (p : P2) : Prop := w.cell? ⟨b, o, none⟩ = some (.int .i64 p.x) ∧ w.cell? ⟨b, o + 1, none⟩ = some (.int .i64 p.y)
theorem PAt.ext {w w' : World} {b o : Nat} {p : P2} (h : PAt w b o p) (k : Ext w w') : PAt w' b o p := ⟨k.cellOf h.1, k.cellOf h.2⟩
/-- A slice that reads as a list of points. -/
def Pxs (w : World) (a : Option Addr) (ps : List P2) : Prop :=
  ps.length ≤ maxLen ∧ (ps = [] ∨ ∃ b off, a = some ⟨b, off, none⟩ ∧ ∀ i, i < ps.length → PAt w b (off + i * 2) (px ps i))
theorem Pxs.ext {w w' : World} {a : Option Addr} {ps : List P2} (h : Pxs w a ps) (k : Ext w w') : Pxs w' a ps := by
  refine ⟨h.1, ?_⟩
  rcases h.2 with h | ⟨b, off, ha, h⟩
  · exact .inl h
  · exact .inr ⟨b, off, ha, fun i hi => (h i hi).ext k⟩
theorem Pxs.row {w : World} {a : Option Addr} {ps : List P2} (h : Pxs w a ps) (h0 : 0 < ps.length) : ∃ b off, a = some ⟨b, off, none⟩ ∧ ∀ i, i < ps.length → PAt w b (off + i * 2) (px ps i) := by
  rcases h.2 with e | e
  · rw [e] at h0; simp at h0
  · exact e
/-- A row of points of a call's own. -/
def OwnP (w : World) (base : Nat) (v : Value) (ps : List P2) : Prop := w.ownsRow base 25 2 v ps.length (cellsP ps)
theorem OwnP.ext {w w' : World} {base : Nat} {v : Value} {ps : List P2} (h : OwnP w base v ps) (k : Ext w w') : OwnP w' base v ps := row_ext h k
theorem OwnP.chg {w w' : World} {base B : Nat} {v : Value} {ps : List P2} (h : OwnP w base v ps) (k : Chg B w w') (hB : v.ownBlock ≠ some B) : OwnP w' base v ps :=
  World.ownsRow.kept h (row := some B) ⟨k.os, k.tape, k.output, k.size, fun i hi hne => k.block i hi (fun e => hne (by rw [e]))⟩ (.inr hB)
theorem OwnP.block {w : World} {base : Nat} {v : Value} {ps : List P2} (h : OwnP w base v ps) {B : Nat} (hB : B < base) : v.ownBlock ≠ some B := fun e => by have := (World.ownsRow.lt h B e).1; omega
theorem OwnP.cases {w : World} {base : Nat} {v : Value} {ps : List P2} (h : OwnP w base v ps) :
    (v = .slice none 0 0 ∧ ps = []) ∨ ∃ g cap, v = .slice (some ⟨g, 0, none⟩) ps.length cap ∧ base ≤ g ∧ (∀ i, i < ps.length → PAt w g (i * 2) (px ps i)) ∧ (∀ j, w.frozen? ⟨g, j, none⟩ = false) ∧ v.ownBlock = some g := by
  have h0 := h
  rcases h.2 with ⟨hv, hn⟩ | ⟨g, cap, cur, hv, hb, hg, hc, hm, hs, ht⟩
  · exact .inl ⟨hv, List.length_eq_zero_iff.1 hn⟩
  · rw [hv] at h0
    refine .inr ⟨g, cap, hv, hb, fun i hi => ?_, fun j => World.ownsRow.frozenAt h0 j, by rw [hv]; rfl⟩
    obtain ⟨c0, c1⟩ := cellsP_get ps i _ (px_at hi)
    exact ⟨by rw [World.ownsRow.cellAt h0 (i * 2) (by omega)]; exact c0, by rw [World.ownsRow.cellAt h0 (i * 2 + 1) (by omega)]; exact c1⟩
theorem OwnP.pxs {w : World} {base : Nat} {v : Value} {ps : List P2} (h : OwnP w base v ps) (hl : ps.length ≤ maxLen) : ∃ a cap, v = .slice a ps.length cap ∧ Pxs w a ps := by
  rcases h.cases with ⟨hv, rfl⟩ | ⟨g, cap, hv, _, hc, _⟩
  · exact ⟨none, 0, hv, hl, .inl rfl⟩
  · exact ⟨some ⟨g, 0, none⟩, cap, hv, hl, .inr ⟨g, 0, rfl, fun i hi => by rw [Nat.zero_add]; exact hc i hi⟩⟩

set_option maxHeartbeats 800000 in
theorem eqPointS_same (a b : Option Addr) (cap cap' : Nat) (ps : List P2) (w : World) (ha : Pxs w a ps) (hb : Pxs w b ps) : Calls Try.prog 32 #[.slice a ps.length cap, .slice b ps.length cap'] w fun e w' => e = .returned (.bool true) ∧ Ext w w' := by
  have hm := ha.1
  unfold maxLen at hm
  have HA := Lib.hid ha
  have HB := Lib.hid hb
  clear ha hb
  go_enter Try.func32, Try.ntmps32
  go_wp2
  go_loopw [5] (fun i wr => RelE w ps.length i wr) (fun i _ => ps.length - (intOf i).toNat)
  case atStart => exact ⟨0, rfl, Nat.zero_le _, Ext.refl _⟩
  case round =>
    obtain ⟨k, rfl, hk, hx⟩ := hrel
    have HX := Lib.hid hx
    clear hx
    by_cases hk1 : k < ps.length
    · obtain ⟨b1, o1, rfl, h1⟩ := HA.out.row (by omega)
      obtain ⟨b2, o2, rfl, h2⟩ := HB.out.row (by omega)
      obtain ⟨c0, c1⟩ := (h1 k hk1).ext HX.out
      obtain ⟨d0, d1⟩ := (h2 k hk1).ext HX.out
      clear h1 h2
      have i0 : (0 : Int) ≤ (k : Int) := by omega
      have i1 : (k : Int) < (ps.length : Int) := by omega
      go_wp2_with fail
      refine wp_region_held_drew (S := (fun w' => w'.cell? ⟨b1, o1 + k * 2, none⟩ = some (.int .i64 (px ps k).x) ∧ w'.cell? ⟨b1, o1 + k * 2 + 1, none⟩ = some (.int .i64 (px ps k).y) ∧ w'.cell? ⟨b2, o2 + k * 2, none⟩ = some (.int .i64 (px ps k).x) ∧ w'.cell? ⟨b2, o2 + k * 2 + 1, none⟩ = some (.int .i64 (px ps k).y))) (by kernel_rfl) (by (try dsimp only); first | go_keep | exact (Ext.refl _).drew | exact Res.new2.drew | exact Res.new4.drew | exact ResB.drew (by assumption) | exact ResC.drew (by assumption) | assumption | exact Res.drew (by assumption)) (fun hHeld => ?_)
      (refine Ord.takeH 0 17 (v := ?_) rfl rfl (by kernel_rfl) (by kernel_rfl) (by kernel_rfl) (fun _ _ _ h => h) (by rfl) ?_ (by assumption) ?_; rotate_left; (intro w hSw; (try dsimp only at hSw); go_simp; (first | done | with_reducible rfl)); (try simp only [Act.put, List.setIfInBounds_toArray, List.set_cons_zero, List.set_cons_succ]))
      (refine Ord.takeH 1 18 (v := ?_) rfl rfl (by kernel_rfl) (by kernel_rfl) (by kernel_rfl) (fun _ _ _ h => h) (by rfl) ?_ (by assumption) ?_; rotate_left; (intro w hSw; (try dsimp only at hSw); go_simp; (first | done | with_reducible rfl)); (try simp only [Act.put, List.setIfInBounds_toArray, List.set_cons_zero, List.set_cons_succ]))
      (refine Ord.takeH 2 19 (v := ?_) rfl rfl (by kernel_rfl) (by kernel_rfl) (by kernel_rfl) (fun _ _ _ h => h) (by rfl) ?_ (by assumption) ?_; rotate_left; (intro w hSw; (try dsimp only at hSw); go_simp; (first | done | with_reducible rfl)); (try simp only [Act.put, List.setIfInBounds_toArray, List.set_cons_zero, List.set_cons_succ]))
      (refine Ord.takeH 3 20 (v := ?_) rfl rfl (by kernel_rfl) (by kernel_rfl) (by kernel_rfl) (fun _ _ _ h => h) (by rfl) ?_ (by assumption) ?_; rotate_left; (intro w hSw; (try dsimp only at hSw); go_simp; (first | done | with_reducible rfl)); (try simp only [Act.put, List.setIfInBounds_toArray, List.set_cons_zero, List.set_cons_succ]))
      (refine Ord.takeH 4 21 (v := ?_) rfl rfl (by kernel_rfl) (by kernel_rfl) (by kernel_rfl) (fun _ _ _ h => h) (by rfl) ?_ (by assumption) ?_; rotate_left; (intro w hSw; (try dsimp only at hSw); go_simp; (first | done | with_reducible rfl)); (try simp only [Act.put, List.setIfInBounds_toArray, List.set_cons_zero, List.set_cons_succ]))
      (refine Ord.takeH 5 22 (v := ?_) rfl rfl (by kernel_rfl) (by kernel_rfl) (by kernel_rfl) (fun _ _ _ h => h) (by rfl) ?_ (by assumption) ?_; rotate_left; (intro w hSw; (try dsimp only at hSw); go_simp; (first | done | with_reducible rfl)); (try simp only [Act.put, List.setIfInBounds_toArray, List.set_cons_zero, List.set_cons_succ]))
      (refine Ord.takeH 6 23 (v := ?_) rfl rfl (by kernel_rfl) (by kernel_rfl) (by kernel_rfl) (fun _ _ _ h => h) (by rfl) ?_ (by assumption) ?_; rotate_left; (intro w hSw; (try dsimp only at hSw); go_simp; (first | done | with_reducible rfl)); (try simp only [Act.put, List.setIfInBounds_toArray, List.set_cons_zero, List.set_cons_succ]))
      (refine Ord.takeH 7 24 (v := ?_) rfl rfl (by kernel_rfl) (by kernel_rfl) (by kernel_rfl) (fun _ _ _ h => h) (by rfl) ?_ (by assumption) ?_; rotate_left; (intro w hSw; (try dsimp only at hSw); go_simp; (first | done | with_reducible rfl)); (try simp only [Act.put, List.setIfInBounds_toArray, List.set_cons_zero, List.set_cons_succ]))
      (refine wpAnyH_ready (rs := [8]) (by kernel_rfl) (by simp) ?_; refine AllReadyH.cons rfl (fun K hK => ?_) AllReadyH.nil; go_simp; (go_at_call 70; refine (eqPoint_same _ _ _).mono ?_; rintro e w1 ⟨rfl, hy⟩); go_wp2_with fail; (refine hK.out _ _ (by first | assumption | exact Ext.trans (by assumption) hy | exact Res.ext (by assumption) hy | exact ResB.ext (by assumption) hy | exact ResC.ext (by assumption) hy | (go_split_ands; (repeat' apply And.intro) <;> exact Ext.cellOf hy (by assumption))) (fun hHeld => ?_)); clear hK K; (try simp only [Act.put, List.setIfInBounds_toArray, List.set_cons_zero, List.set_cons_succ]))
      (refine Ord.takeH 9 26 (v := ?_) rfl rfl (by kernel_rfl) (by kernel_rfl) (by kernel_rfl) (fun _ _ _ h => h) (by rfl) ?_ (by assumption) ?_; rotate_left; (intro w hSw; (try dsimp only at hSw); go_simp; (first | done | with_reducible rfl)); (try simp only [Act.put, List.setIfInBounds_toArray, List.set_cons_zero, List.set_cons_succ]))
      refine wpAnyH_done (by kernel_rfl) ?_ _
      have HX2 := Lib.hid (HX.out.drew.trans hy)
      clear hy c0 c1 d0 d1
      go_wp2
      go_roundw
      case rel => exact ⟨k + 1, by go_num, by omega, HX2.out⟩
      case measure => simp [intOf]; omega
    · obtain rfl : k = ps.length := by omega
      go_wp2
      go_ret
      exact ⟨rfl, HX.out⟩

/-- The first j points of block g are the marks from k on. -/
def MarkedP (w : World) (g : Nat) (k : Int) (j : Nat) : Prop := ∀ i, i < j → PAt w g (i * 2) ⟨k + 2 * i, k + 2 * i + 1⟩
/-- The cells of n points of block g may be written. -/
def RoomP (w : World) (g n : Nat) : Prop := ∀ j, j < n * 2 → (∃ v, w.cell? ⟨g, j, none⟩ = some v) ∧ w.frozen? ⟨g, j, none⟩ = false
def RelMP (w : World) (g n : Nat) (k : Int) (s i : Value) (wr : World) : Prop :=
  ∃ j : Nat, i = .int .i64 j ∧ s = .int .i64 (k + 2 * j) ∧ j ≤ n ∧ RoomP wr g n ∧ MarkedP wr g k j ∧ Chg g w wr

theorem RelMP.step {w wr : World} {g n : Nat} {k : Int} {j : Nat} (hj : j < n) (hr : RoomP wr g n) (hm : MarkedP wr g k j) (hx : Chg g w wr) :
    RelMP w g n k (.int .i64 (k + 2 * j + 1 + 1)) (.int .i64 (j + 1)) ((wr.setCell ⟨g, j * 2, none⟩ (.int .i64 (k + 2 * j))).setCell ⟨g, j * 2 + 1, none⟩ (.int .i64 (k + 2 * j + 1))) := by
  obtain ⟨⟨v0, d0⟩, f0⟩ := hr (j * 2) (by omega)
  obtain ⟨⟨v1, d1⟩, f1⟩ := hr (j * 2 + 1) (by omega)
  refine ⟨j + 1, by go_num, by congr 1; omega, by omega, fun i hi => ?_, fun i hi => ?_, (hx.setCell _ _).setCell _ _⟩
  · obtain ⟨⟨v, hv⟩, hf⟩ := hr i hi
    refine ⟨?_, by simp only [World.frozen?_setCell]; exact hf⟩
    by_cases h1 : j * 2 + 1 = i
    · subst h1; exact ⟨_, World.cell?_setCell_same _ _ _ (by rw [set_other _ _ _ _ _ (by omega)]; exact d1)⟩
    · rw [set_other _ _ _ _ _ h1]
      by_cases h0 : j * 2 = i
      · subst h0; exact ⟨_, World.cell?_setCell_same _ _ _ d0⟩
      · rw [set_other _ _ _ _ _ h0]; exact ⟨_, hv⟩
  · by_cases h : i = j
    · subst h
      refine ⟨?_, ?_⟩
      · rw [set_other _ _ _ _ _ (by omega)]; exact World.cell?_setCell_same _ _ _ d0
      · exact World.cell?_setCell_same _ _ _ (by rw [set_other _ _ _ _ _ (by omega)]; exact d1)
    · obtain ⟨g0, g1⟩ := hm i (by omega)
      refine ⟨?_, ?_⟩
      all_goals
        rw [set_other _ _ _ _ _ (by omega), set_other _ _ _ _ _ (by omega)]; assumption

set_option maxHeartbeats 400000 in
theorem markPointS_any (g cap n : Nat) (k : Int) (w : World) (hr : RoomP w g n) (hn : n ≤ 1000) (k0 : 0 ≤ k) (k1 : k ≤ 10000000) :
    Calls Try.prog 34 #[.slice (some ⟨g, 0, none⟩) n cap, .int .i64 k] w fun e w' => e = .returned (.int .i64 (k + 2 * n)) ∧ MarkedP w' g k n ∧ Chg g w w' := by
  have HR := Lib.hid hr
  clear hr
  go_enter Try.func34, Try.ntmps34
  go_wp2
  go_loopw [1, 5] (fun s i wr => RelMP w g n k s i wr) (fun s i _ => n - (intOf i).toNat)
  case atStart => exact ⟨0, rfl, by simp, Nat.zero_le _, HR.out, fun i hi => absurd hi (by omega), Chg.refl _ _⟩
  case round =>
    obtain ⟨j, rfl, rfl, hj, hr, hm, hx⟩ := hrel
    have HR2 := Lib.hid hr
    have HM := Lib.hid hm
    have HX := Lib.hid hx
    clear hr hm hx
    by_cases hj1 : j < n
    · obtain ⟨⟨v0, d0⟩, f0⟩ := HR2.out (j * 2) (by omega)
      obtain ⟨⟨v1, d1⟩, f1⟩ := HR2.out (j * 2 + 1) (by omega)
      have i0 : (0 : Int) ≤ (j : Int) := by omega
      have i1 : (j : Int) < (n : Int) := by omega
      have T0 : IntKind.i64.wrap ((j : Int) + 1) = (j : Int) + 1 := IntWalk.i64_in _ (by omega)
      have T1 : IntKind.i64.wrap (k + 2 * (j : Int) + 1) = k + 2 * (j : Int) + 1 := IntWalk.i64_in _ (by omega)
      have T2 : IntKind.i64.wrap (k + 2 * (j : Int) + 1 + 1) = k + 2 * (j : Int) + 1 + 1 := IntWalk.i64_in _ (by omega)
      have z0 : decide ((j : Int) < (n : Int)) = true := decide_eq_true i1
      go_wp2
      go_roundw
      case rel => exact RelMP.step hj1 HR2.out HM.out HX.out
      case measure => simp [intOf]; omega
    · obtain rfl : j = n := by omega
      go_wp2
      go_ret
      exact ⟨rfl, HM.out, HX.out⟩

def RelWP (w : World) (n : Nat) (k : Int) (s i : Value) (wr : World) : Prop := ∃ j : Nat, i = .int .i64 j ∧ s = .int .i64 (k + 2 * j) ∧ j ≤ n ∧ w = wr

set_option maxHeartbeats 400000 in
theorem heldPointS_any (g cap n : Nat) (k : Int) (w : World) (hm : MarkedP w g k n) (hn : n ≤ 1000) (k0 : 0 ≤ k) (k1 : k ≤ 10000000) :
    Calls Try.prog 35 #[.slice (some ⟨g, 0, none⟩) n cap, .int .i64 k] w fun e w' => e = .returned (.int .i64 (k + 2 * n)) ∧ w = w' := by
  have HM := Lib.hid hm
  clear hm
  go_enter Try.func35, Try.ntmps35
  go_wp2
  go_loopw [1, 5] (fun s i wr => RelWP w n k s i wr) (fun s i _ => n - (intOf i).toNat)
  case atStart => exact ⟨0, rfl, by simp, Nat.zero_le _, rfl⟩
  case round =>
    obtain ⟨j, rfl, rfl, hj, rfl⟩ := hrel
    by_cases hj1 : j < n
    · obtain ⟨d0, d1⟩ := HM.out j hj1
      have i0 : (0 : Int) ≤ (j : Int) := by omega
      have i1 : (j : Int) < (n : Int) := by omega
      have T0 : IntKind.i64.wrap ((j : Int) + 1) = (j : Int) + 1 := IntWalk.i64_in _ (by omega)
      have T1 : IntKind.i64.wrap (k + 2 * (j : Int) + 1) = k + 2 * (j : Int) + 1 := IntWalk.i64_in _ (by omega)
      have T2 : IntKind.i64.wrap (k + 2 * (j : Int) + 1 + 1) = k + 2 * (j : Int) + 1 + 1 := IntWalk.i64_in _ (by omega)
      have z0 : decide ((j : Int) < (n : Int)) = true := decide_eq_true i1
      go_wp2
      go_roundw
      case rel => exact ⟨j + 1, by go_num, by congr 1; omega, by omega, rfl⟩
      case measure => simp [intOf]; omega
    · obtain rfl : j = n := by omega
      go_wp2
      go_ret
      exact ⟨rfl, rfl⟩

/-- A row without points. -/
theorem markPointS_zero (a : Option Addr) (cap : Nat) (k : Int) (w : World) : Calls Try.prog 34 #[.slice a 0 cap, .int .i64 k] w fun e w' => e = .returned (.int .i64 k) ∧ w = w' := by
  go_enter Try.func34, Try.ntmps34
  go_wp2
  go_loopw [1, 5] (fun s i wr => i = .int .i64 0 ∧ s = .int .i64 k ∧ w = wr) (fun s i _ => 0)
  case atStart => exact ⟨rfl, rfl, rfl⟩
  case round =>
    obtain ⟨rfl, rfl, rfl⟩ := hrel
    go_wp2
    go_ret
    exact ⟨rfl, rfl⟩
theorem heldPointS_zero (a : Option Addr) (cap : Nat) (k : Int) (w : World) : Calls Try.prog 35 #[.slice a 0 cap, .int .i64 k] w fun e w' => e = .returned (.int .i64 k) ∧ w = w' := by
  go_enter Try.func35, Try.ntmps35
  go_wp2
  go_loopw [1, 5] (fun s i wr => i = .int .i64 0 ∧ s = .int .i64 k ∧ w = wr) (fun s i _ => 0)
  case atStart => exact ⟨rfl, rfl, rfl⟩
  case round =>
    obtain ⟨rfl, rfl, rfl⟩ := hrel
    go_wp2
    go_ret
    exact ⟨rfl, rfl⟩

/-- Nothing that was there is written but the row of v, which lies from 'base' on. -/
def ChgV (v : Value) (base : Nat) (w w' : World) : Prop := Ext w w' ∨ ∃ B, base ≤ B ∧ v.ownBlock = some B ∧ Chg B w w'
theorem ChgV.ext {v : Value} {base : Nat} {W w w' : World} (h : ChgV v base w w') (k : Ext W w) (hW : W.heap.size ≤ base) : Ext W w' := by
  rcases h with h | ⟨B, hB, _, h⟩
  · exact k.trans h
  · exact h.ext k (by omega)
/-- The row of v holds the marks from k on. -/
def HeldP (w : World) (v : Value) (k : Int) (n : Nat) : Prop := (v = .slice none 0 0 ∧ n = 0) ∨ ∃ g cap, v = .slice (some ⟨g, 0, none⟩) n cap ∧ MarkedP w g k n
theorem HeldP.ext {w w' : World} {v : Value} {k : Int} {n : Nat} (h : HeldP w v k n) (x : Ext w w') : HeldP w' v k n := by
  rcases h with h | ⟨g, cap, e, h⟩
  · exact .inl h
  · exact .inr ⟨g, cap, e, fun i hi => (h i hi).ext x⟩
theorem markOwnP_any (base : Nat) (v : Value) (ps : List P2) (k : Int) (w : World) (h : OwnP w base v ps) (hn : ps.length ≤ 1000) (k0 : 0 ≤ k) (k1 : k ≤ 10000000) :
    Calls Try.prog 34 #[v, .int .i64 k] w fun e w' => e = .returned (.int .i64 (k + 2 * ps.length)) ∧ HeldP w' v k ps.length ∧ ChgV v base w w' := by
  rcases h.cases with ⟨rfl, rfl⟩ | ⟨g, cap, rfl, hb, hO, hf, ho⟩
  · exact (markPointS_zero _ _ k w).mono fun e w' ⟨he, hx⟩ => ⟨by simpa using he, .inl ⟨rfl, rfl⟩, .inl (hx ▸ Ext.refl w)⟩
  · have hR : RoomP w g ps.length := fun j hj => by
      obtain ⟨c0, c1⟩ := hO (j / 2) (by omega)
      rcases (show j = j / 2 * 2 ∨ j = j / 2 * 2 + 1 by omega) with e | e
      · exact ⟨by rw [e]; exact ⟨_, c0⟩, hf j⟩
      · exact ⟨by rw [e]; exact ⟨_, c1⟩, hf j⟩
    exact (markPointS_any g cap _ k w hR hn k0 k1).mono fun e w' ⟨he, hm, hc⟩ => ⟨he, .inr ⟨g, cap, rfl, hm⟩, .inr ⟨g, hb, ho, hc⟩⟩
theorem heldOwnP_any (v : Value) (n : Nat) (k : Int) (w : World) (h : HeldP w v k n) (hn : n ≤ 1000) (k0 : 0 ≤ k) (k1 : k ≤ 10000000) :
    Calls Try.prog 35 #[v, .int .i64 k] w fun e w' => e = .returned (.int .i64 (k + 2 * n)) ∧ w = w' := by
  rcases h with ⟨rfl, rfl⟩ | ⟨g, cap, rfl, hm⟩
  · exact (heldPointS_zero _ _ k w).mono fun e w' ⟨he, hx⟩ => ⟨by simpa using he, hx⟩
  · exact heldPointS_any g cap n k w hm hn k0 k1

end Go.Proofs.Ytmebaihacddhfaa.Crs
