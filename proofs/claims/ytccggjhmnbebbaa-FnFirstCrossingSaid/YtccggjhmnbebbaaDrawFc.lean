/- The contract of DrawFirstCrossing: a track, a line and two numbers come out, and nothing that was there is written. -/
import Derived.Test.YtccggjhmnbebbaaDrawCc
namespace Go.Proofs.Ytccggjhmnbebbaa.Trk
open Go.ChangeShapes Go.WideShapes Go.ChangeAt Go.RowKit
open Go.Proofs.Ytccggjhmnbebbaa.Num Go.Proofs.Ytccggjhmnbebbaa.Kit Go.Proofs.Ytccggjhmnbebbaa.Pts Go.Proofs.Ytccggjhmnbebbaa.Draw Go.Proofs.Ytccggjhmnbebbaa.Seg
set_option linter.unusedVariables false
set_option linter.unusedSimpArgs false

/-- A track, a line and two numbers. -/
def TrLN (w : World) (e : Ending) (w' : World) : Prop :=
  ∃ (g cap n : Nat) (a b c d p q : Int), e = .returned (.tuple #[Tr (.slice (some ⟨g, 0, none⟩) n cap), Sg a b c d, .int .i64 p, .int .i64 q]) ∧ n ≤ 41 ∧ n ≤ cap ∧ IntRow w' g n ∧ Ext w w'
/-- While the draw gathers its results. -/
def FD (w : World) (R T g n : Nat) (V : Value) (a b c d : Int) (w' : World) : Prop :=
  Ext w w' ∧ (∃ v, Box w' R [v]) ∧ (∃ a b c d, Box w' (R + 1) [a, b, c, d]) ∧ w'.cell? ⟨T, 0, none⟩ = some V ∧ IntRow w' g n ∧ Box w' (T + 1) [.int .i64 a, .int .i64 b, .int .i64 c, .int .i64 d]
theorem FD.chg {w : World} {B R T g n : Nat} {V : Value} {a b c d : Int} {u u' : World} (h : FD w R T g n V a b c d u) (k : Chg B u u') (h0 : w.heap.size ≤ B) (h1 : R ≠ B) (h2 : R + 1 ≠ B) (h3 : T ≠ B) (h4 : g ≠ B) (h5 : T + 1 ≠ B) : FD w R T g n V a b c d u' := by
  obtain ⟨hC, ⟨v, hv⟩, ⟨x, y, z, t, hx⟩, hT, hI, hb⟩ := h
  exact ⟨k.ext hC h0, ⟨v, hv.chg k h1⟩, ⟨x, y, z, t, hx.chg k h2⟩, k.cellOf h3 hT, hI.chg k h4, hb.chg k h5⟩
theorem FD.drew {w : World} {R T g n : Nat} {V : Value} {a b c d : Int} {u : World} (h : FD w R T g n V a b c d u) : FD w R T g n V a b c d u.drew := by
  obtain ⟨hC, ⟨v, hv⟩, ⟨x, y, z, t, hx⟩, hT, hI, hb⟩ := h
  exact ⟨hC.drew, ⟨v, hv.drew⟩, ⟨x, y, z, t, hx.drew⟩, ((Ext.refl u).drew).cellOf hT, hI.ext (Ext.refl u).drew, hb.drew⟩

theorem FD.put1 {w : World} {R T g n : Nat} {V : Value} {a b c d : Int} {u : World} (h : FD w R T g n V a b c d u) (h0 : w.heap.size ≤ R) (h1 : T ≠ R) (h2 : g ≠ R) (h3 : T + 1 ≠ R) (x : Value) : FD w R T g n V a b c d (u.setCell ⟨R, 0, none⟩ x) := by
  obtain ⟨hC, ⟨v, hv⟩, ⟨p, q, r, s, hx⟩, hT, hI, hb⟩ := h
  have k : Chg R u (u.setCell ⟨R, 0, none⟩ x) := (Chg.refl _ _).setCell _ _
  exact ⟨k.ext hC h0, ⟨x, hv.set 0 (by simp) x⟩, ⟨p, q, r, s, hx.chg k (by omega)⟩, k.cellOf h1 hT, hI.chg k h2, hb.chg k h3⟩
theorem FD.put4 {w : World} {R T g n : Nat} {V : Value} {a b c d : Int} {u : World} (h : FD w R T g n V a b c d u) (h0 : w.heap.size ≤ R) (h1 : T ≠ R + 1) (h2 : g ≠ R + 1) (h3 : T ≠ R) (x y z t : Value) : FD w R T g n V a b c d ((((u.setCell ⟨R + 1, 0, none⟩ x).setCell ⟨R + 1, 1, none⟩ y).setCell ⟨R + 1, 2, none⟩ z).setCell ⟨R + 1, 3, none⟩ t) := by
  obtain ⟨hC, ⟨v, hv⟩, ⟨p, q, r, s, hx⟩, hT, hI, hb⟩ := h
  have k : Chg (R + 1) u ((((u.setCell ⟨R + 1, 0, none⟩ x).setCell ⟨R + 1, 1, none⟩ y).setCell ⟨R + 1, 2, none⟩ z).setCell ⟨R + 1, 3, none⟩ t) := ((((Chg.refl _ _).setCell _ _).setCell _ _).setCell _ _).setCell _ _
  exact ⟨k.ext hC (by omega), ⟨v, hv.chg k (by omega)⟩, ⟨x, y, z, t, Box.set4 hx⟩, k.cellOf h1 hT, hI.chg k h2, hb.chg k (by omega)⟩

theorem fc_done {n g cap k : Nat} {w F : World} {tmps : Array Value} {a b c d p q : Int} (R : Box F n [.slice (some ⟨g, 0, none⟩) k cap]) (T : Box F (n + 1) [.int .i64 a, .int .i64 b, .int .i64 c, .int .i64 d]) (h2 : k ≤ 41) (h3 : k ≤ cap) (hI : IntRow F g k) (hC : Ext w F)
    (ha : tmps[2]? = some (.pointer (some ⟨n, 0, none⟩))) (hb : tmps[3]? = some (.pointer (some ⟨n + 1, 0, none⟩))) (hp : tmps[4]? = some (.int .i64 p)) (hq : tmps[5]? = some (.int .i64 q)) : bodyPost Try.prog Try.f14 (TrLN w) Exit.ret ⟨tmps, []⟩ F := by
  obtain ⟨⟨f0, f1, f2, f3⟩, _⟩ := T.four
  have g0 := (R 0 _ rfl).1
  exact bodyPost_ret (v := .tuple #[Tr (.slice (some ⟨g, 0, none⟩) k cap), Sg a b c d, .int .i64 p, .int .i64 q]) (by simp [results, Try.results14, go_sem, ha, hb, hp, hq, g0, f0, f1, f2, f3]) rfl ⟨g, cap, k, a, b, c, d, p, q, rfl, h2, h3, hI, hC⟩

set_option maxRecDepth 100000 in
set_option maxHeartbeats 2000000 in
theorem drawFirstCrossing_any (a : Option Addr) (len cap : Nat) (w : World) (hb : Bytes w a len) (hl : len ≤ 100000) : Calls Try.prog 14 #[.slice a len cap] w (TrLN w) := by
  have HB := Lib.hid hb
  clear hb
  obtain ⟨W0, hW0⟩ : ∃ W0, W0 = (w.alloc (.cells #[.slice none 0 0] 26)).alloc (.cells #[.int .i64 0, .int .i64 0, .int .i64 0, .int .i64 0] 30) := ⟨_, rfl⟩
  have hX : Ext w W0 := hW0 ▸ ((Ext.refl w).alloc _).alloc _
  have hz0 : W0.heap.size = w.heap.size + 1 + 1 := by rw [hW0]; simp
  have R1 := Lib.hid (show Box W0 w.heap.size [.slice none 0 0] by rw [hW0]; exact (Box.new rfl).alloc _)
  have R2 := Lib.hid (show Box W0 (w.heap.size + 1) [.int .i64 0, .int .i64 0, .int .i64 0, .int .i64 0] by rw [hW0]; exact Box.new4 (by simp))
  go_enter Try.func14, Try.ntmps14
  go_wp2_with fail
  rw [← hW0]
  clear hW0
  refine (from_any _ _ _ _ (HB.out.ext hX) hl).mono ?_
  rintro e w1 ⟨B, rfl, hB, hs1, hx1⟩
  replace R1 := Lib.hid (R1.out.ext hx1)
  replace R2 := Lib.hid (R2.out.ext hx1)
  have hx := hX.trans hx1
  have z1 := Ext.size hx1
  clear hx1 hX
  go_wp2_with fail
  refine (draw5_any _ _ hs1).mono ?_
  rintro e w2 ⟨g, tc, n, x, y, z, t, rfl, h1, h41, htc, hg, hI, hs2, hc⟩
  have hgl : g < w2.heap.size := World.block_lt_of_cell? w2 _ (hI 0 (by omega)).1.choose_spec
  have z2 := hc.size
  have hB2 := hs1.lt
  obtain ⟨wA, hwA⟩ : ∃ wA, wA = (w2.alloc (.cells #[.slice (some ⟨g, 0, none⟩) n tc] 26)).alloc (.cells #[.int .i64 x, .int .i64 y, .int .i64 z, .int .i64 t] 30) := ⟨_, rfl⟩
  have hA : Ext w2 wA := hwA ▸ ((Ext.refl _).alloc _).alloc _
  have F0 : FD w w.heap.size w2.heap.size g n (.slice (some ⟨g, 0, none⟩) n tc) x y z t wA :=
    ⟨(hc.ext hx (by omega)).trans hA, ⟨_, (R1.out.chg hc (by omega)).ext hA⟩, ⟨_, _, _, _, (R2.out.chg hc (by omega)).ext hA⟩, hwA ▸ ((Ext.refl _).alloc _).cellOf (boxed 0 rfl rfl), hI.ext hA, hwA ▸ Box.new4 (by simp)⟩
  have hsA := hs2.ext hA
  have et : ∀ w', FD w w.heap.size w2.heap.size g n (.slice (some ⟨g, 0, none⟩) n tc) x y z t w' → w'.cell? ⟨w2.heap.size, 0, none⟩ = some (.slice (some ⟨g, 0, none⟩) n tc) := fun w' h => h.2.2.2.1
  have e0 : ∀ w', FD w w.heap.size w2.heap.size g n (.slice (some ⟨g, 0, none⟩) n tc) x y z t w' → w'.cell? ⟨w2.heap.size + 1, 0, none⟩ = some (.int .i64 x) := fun w' h => (h.2.2.2.2.2 0 _ rfl).1
  have e1 : ∀ w', FD w w.heap.size w2.heap.size g n (.slice (some ⟨g, 0, none⟩) n tc) x y z t w' → w'.cell? ⟨w2.heap.size + 1, 1, none⟩ = some (.int .i64 y) := fun w' h => (h.2.2.2.2.2 1 _ rfl).1
  have e2 : ∀ w', FD w w.heap.size w2.heap.size g n (.slice (some ⟨g, 0, none⟩) n tc) x y z t w' → w'.cell? ⟨w2.heap.size + 1, 2, none⟩ = some (.int .i64 z) := fun w' h => (h.2.2.2.2.2 2 _ rfl).1
  have e3 : ∀ w', FD w w.heap.size w2.heap.size g n (.slice (some ⟨g, 0, none⟩) n tc) x y z t w' → w'.cell? ⟨w2.heap.size + 1, 3, none⟩ = some (.int .i64 t) := fun w' h => (h.2.2.2.2.2 3 _ rfl).1
  clear hx hc hs1 hs2 R1 R2 hA
  go_wp2_with fail
  rw [← hwA]
  clear hwA
  refine (next_pos B _ _ hsA (by omega)).mono ?_
  rintro e w3 ⟨r1, rfl, r10, r11, hs3, hc⟩
  have F1 := FD.chg F0 hc (by omega) (by omega) (by omega) (by omega) (by omega) (by omega)
  clear hc F0 hsA
  go_wp2_with fail
  refine (next_pos B _ _ hs3 (by omega)).mono ?_
  rintro e w4 ⟨r2, rfl, r20, r21, hs4, hc⟩
  have F2 := FD.chg F1 hc (by omega) (by omega) (by omega) (by omega) (by omega) (by omega)
  clear hc F1 hs3
  by_cases h0 : r2 = 0
  · have t0 : (r2 == 0) = true := beq_iff_eq.2 h0
    clear h0
    go_wp2_with fail
    refine (next_pos B _ _ hs4 (by omega)).mono ?_
    rintro e w5 ⟨r3, rfl, r30, r31, hs5, hc⟩
    have F3 := FD.chg F2 hc (by omega) (by omega) (by omega) (by omega) (by omega) (by omega) 
    clear hc F2 hs4
    go_upto_region 6 with fail
    refine wp_region_held_drew (S := (FD w w.heap.size w2.heap.size g n (.slice (some ⟨g, 0, none⟩) n tc) x y z t)) (by kernel_rfl) (by (try dsimp only); exact F3.drew) (fun hHeld => ?_)
    (refine Ord.takeH 0 27 (v := ?_) rfl rfl (by kernel_rfl) (by kernel_rfl) (by kernel_rfl) (fun _ _ _ h => h) (by rfl) ?_ (by assumption) ?_; rotate_left; (intro w hSw; (try dsimp only at hSw); go_simp; (first | done | with_reducible rfl)); (try simp only [Act.put, List.setIfInBounds_toArray, List.set_cons_zero, List.set_cons_succ])); (refine Ord.takeH 1 28 (v := ?_) rfl rfl (by kernel_rfl) (by kernel_rfl) (by kernel_rfl) (fun _ _ _ h => h) (by rfl) ?_ (by assumption) ?_; rotate_left; (intro w hSw; (try dsimp only at hSw); go_simp; (first | done | with_reducible rfl)); (try simp only [Act.put, List.setIfInBounds_toArray, List.set_cons_zero, List.set_cons_succ])); (refine Ord.takeH 2 29 (v := ?_) rfl rfl (by kernel_rfl) (by kernel_rfl) (by kernel_rfl) (fun _ _ _ h => h) (by rfl) ?_ (by assumption) ?_; rotate_left; (intro w hSw; (try dsimp only at hSw); go_simp; (first | done | with_reducible rfl)); (try simp only [Act.put, List.setIfInBounds_toArray, List.set_cons_zero, List.set_cons_succ])); (refine Ord.takeH 3 30 (v := ?_) rfl rfl (by kernel_rfl) (by kernel_rfl) (by kernel_rfl) (fun _ _ _ h => h) (by rfl) ?_ (by assumption) ?_; rotate_left; (intro w hSw; (try dsimp only at hSw); go_simp; (first | done | with_reducible rfl)); (try simp only [Act.put, List.setIfInBounds_toArray, List.set_cons_zero, List.set_cons_succ])); (refine Ord.takeH 5 32 (v := ?_) rfl rfl (by kernel_rfl) (by kernel_rfl) (by kernel_rfl) (fun _ _ _ h => h) (by rfl) ?_ (by assumption) ?_; rotate_left; (intro w hSw; (try dsimp only at hSw); go_simp; (first | done | with_reducible rfl)); (try simp only [Act.put, List.setIfInBounds_toArray, List.set_cons_zero, List.set_cons_succ]))
    refine wpAnyH_ready (rs := [4]) (by kernel_rfl) (by simp) ?_
    refine AllReadyH.cons rfl (fun K hK => ?_) AllReadyH.nil
    go_simp
    go_at_call 33
    refine (next_pos B _ _ hs5.drew (by omega)).mono ?_
    rintro e w6 ⟨r4, rfl, r40, r41, hs6, hc⟩
    go_wp2_with fail
    refine hK.out _ _ (FD.chg hHeld hc (by omega) (by omega) (by omega) (by omega) (by omega) (by omega) ) (fun hHeld => ?_)
    clear hK K hc
    (try simp only [Act.put, List.setIfInBounds_toArray, List.set_cons_zero, List.set_cons_succ])
    refine wpAnyH_ready (rs := [6]) (by kernel_rfl) (by simp) ?_
    refine AllReadyH.cons rfl (fun K hK => ?_) AllReadyH.nil
    go_simp
    go_at_call 33
    refine (next_pos B _ _ hs6 (by omega)).mono ?_
    rintro e w7 ⟨r5, rfl, r50, r51, hs7, hc⟩
    go_wp2_with fail
    refine hK.out _ _ (FD.chg hHeld hc (by omega) (by omega) (by omega) (by omega) (by omega) (by omega) ) (fun hHeld => ?_)
    clear hK K hc
    (try simp only [Act.put, List.setIfInBounds_toArray, List.set_cons_zero, List.set_cons_succ])
    (refine Ord.takeH 7 34 (v := ?_) rfl rfl (by kernel_rfl) (by kernel_rfl) (by kernel_rfl) (fun _ _ _ h => h) (by rfl) ?_ (by assumption) ?_; rotate_left; (intro w hSw; (try dsimp only at hSw); go_simp; (first | done | with_reducible rfl)); (try simp only [Act.put, List.setIfInBounds_toArray, List.set_cons_zero, List.set_cons_succ])); (refine Ord.takeH 8 35 (v := ?_) rfl rfl (by kernel_rfl) (by kernel_rfl) (by kernel_rfl) (fun _ _ _ h => h) (by rfl) ?_ (by assumption) ?_; rotate_left; (intro w hSw; (try dsimp only at hSw); go_simp; (first | done | with_reducible rfl)); (try simp only [Act.put, List.setIfInBounds_toArray, List.set_cons_zero, List.set_cons_succ]))
    refine Exists.elim hHeld.2.1 (fun v hv => ?_)
    obtain ⟨k0, l0⟩ := hv 0 _ rfl
    refine wpAnyH_ready (rs := [9]) (by kernel_rfl) (by simp) ?_
    refine AllReadyH.cons rfl (fun K hK => ?_) AllReadyH.nil
    go_simp
    have hQ := FD.put1 hHeld (Nat.le_refl _) (by omega) (by omega) (by omega) (.slice (some ⟨g, 0, none⟩) n tc)
    have Q1 := hv.set 0 (by simp) (.slice (some ⟨g, 0, none⟩) n tc)
    refine hK.out _ _ hQ (fun hHeld => ?_)
    clear hK K hQ k0 l0 hv
    (try simp only [Act.put, List.setIfInBounds_toArray, List.set_cons_zero, List.set_cons_succ])
    refine Exists.elim hHeld.2.2.1 (fun m hm => ?_)
    refine Exists.elim hm (fun m' hm => ?_)
    refine Exists.elim hm (fun m'' hm => ?_)
    refine Exists.elim hm (fun m''' hm => ?_)
    obtain ⟨⟨m0, m1, m2, m3⟩, o0, o1, o2, o3⟩ := hm.four
    refine wpAnyH_ready (rs := [10]) (by kernel_rfl) (by simp) ?_
    refine AllReadyH.cons rfl (fun K hK => ?_) AllReadyH.nil
    go_simp
    have hQ := FD.put4 hHeld (Nat.le_refl _) (by omega) (by omega) (by omega) (.int .i64 x) (.int .i64 y) (.int .i64 z) (.int .i64 t)
    have Q2 := Box.away4 (m := w.heap.size + 1) (i := 0) (j := 1) (k := 2) (l := 3) (a := .int .i64 x) (b := .int .i64 y) (c := .int .i64 z) (d := .int .i64 t) Q1 (by omega)
    have Q3 := Box.set4 (a := .int .i64 x) (b := .int .i64 y) (c := .int .i64 z) (d := .int .i64 t) hm
    refine hK.out _ _ hQ (fun hHeld => ?_)
    clear hK K m0 m1 m2 m3 o0 o1 o2 o3 hm Q1
    (try simp only [Act.put, List.setIfInBounds_toArray, List.set_cons_zero, List.set_cons_succ])
    (refine Ord.takeH 11 4 (v := ?_) rfl rfl (by kernel_rfl) (by kernel_rfl) (by kernel_rfl) (fun _ _ _ h => h) (by rfl) ?_ (by assumption) ?_; rotate_left; (intro w hSw; (try dsimp only at hSw); go_simp; (first | done | with_reducible rfl)); (try simp only [Act.put, List.setIfInBounds_toArray, List.set_cons_zero, List.set_cons_succ])); (refine Ord.takeH 12 5 (v := ?_) rfl rfl (by kernel_rfl) (by kernel_rfl) (by kernel_rfl) (fun _ _ _ h => h) (by rfl) ?_ (by assumption) ?_; rotate_left; (intro w hSw; (try dsimp only at hSw); go_simp; (first | done | with_reducible rfl)); (try simp only [Act.put, List.setIfInBounds_toArray, List.set_cons_zero, List.set_cons_succ]))
    refine wpAnyH_done (by kernel_rfl) ?_ _
    go_wp2
    exact fc_done (n := w.heap.size) (g := g) (k := n) (cap := tc) (a := x) (b := y) (c := z) (d := t) Q2 Q3 h41 htc hHeld.2.2.2.2.1 hHeld.1 rfl rfl rfl rfl
  · have t0 : (r2 == 0) = false := beq_eq_false_iff_ne.2 h0
    clear h0
    go_upto_region 6 with fail
    refine wp_region_held_drew (S := (FD w w.heap.size w2.heap.size g n (.slice (some ⟨g, 0, none⟩) n tc) x y z t)) (by kernel_rfl) (by (try dsimp only); exact F2.drew) (fun hHeld => ?_)
    (refine Ord.takeH 0 27 (v := ?_) rfl rfl (by kernel_rfl) (by kernel_rfl) (by kernel_rfl) (fun _ _ _ h => h) (by rfl) ?_ (by assumption) ?_; rotate_left; (intro w hSw; (try dsimp only at hSw); go_simp; (first | done | with_reducible rfl)); (try simp only [Act.put, List.setIfInBounds_toArray, List.set_cons_zero, List.set_cons_succ])); (refine Ord.takeH 1 28 (v := ?_) rfl rfl (by kernel_rfl) (by kernel_rfl) (by kernel_rfl) (fun _ _ _ h => h) (by rfl) ?_ (by assumption) ?_; rotate_left; (intro w hSw; (try dsimp only at hSw); go_simp; (first | done | with_reducible rfl)); (try simp only [Act.put, List.setIfInBounds_toArray, List.set_cons_zero, List.set_cons_succ])); (refine Ord.takeH 2 29 (v := ?_) rfl rfl (by kernel_rfl) (by kernel_rfl) (by kernel_rfl) (fun _ _ _ h => h) (by rfl) ?_ (by assumption) ?_; rotate_left; (intro w hSw; (try dsimp only at hSw); go_simp; (first | done | with_reducible rfl)); (try simp only [Act.put, List.setIfInBounds_toArray, List.set_cons_zero, List.set_cons_succ])); (refine Ord.takeH 3 30 (v := ?_) rfl rfl (by kernel_rfl) (by kernel_rfl) (by kernel_rfl) (fun _ _ _ h => h) (by rfl) ?_ (by assumption) ?_; rotate_left; (intro w hSw; (try dsimp only at hSw); go_simp; (first | done | with_reducible rfl)); (try simp only [Act.put, List.setIfInBounds_toArray, List.set_cons_zero, List.set_cons_succ])); (refine Ord.takeH 5 32 (v := ?_) rfl rfl (by kernel_rfl) (by kernel_rfl) (by kernel_rfl) (fun _ _ _ h => h) (by rfl) ?_ (by assumption) ?_; rotate_left; (intro w hSw; (try dsimp only at hSw); go_simp; (first | done | with_reducible rfl)); (try simp only [Act.put, List.setIfInBounds_toArray, List.set_cons_zero, List.set_cons_succ]))
    refine wpAnyH_ready (rs := [4]) (by kernel_rfl) (by simp) ?_
    refine AllReadyH.cons rfl (fun K hK => ?_) AllReadyH.nil
    go_simp
    go_at_call 33
    refine (next_pos B _ _ hs4.drew (by omega)).mono ?_
    rintro e w6 ⟨r4, rfl, r40, r41, hs6, hc⟩
    go_wp2_with fail
    refine hK.out _ _ (FD.chg hHeld hc (by omega) (by omega) (by omega) (by omega) (by omega) (by omega) ) (fun hHeld => ?_)
    clear hK K hc
    (try simp only [Act.put, List.setIfInBounds_toArray, List.set_cons_zero, List.set_cons_succ])
    refine wpAnyH_ready (rs := [6]) (by kernel_rfl) (by simp) ?_
    refine AllReadyH.cons rfl (fun K hK => ?_) AllReadyH.nil
    go_simp
    go_at_call 33
    refine (next_pos B _ _ hs6 (by omega)).mono ?_
    rintro e w7 ⟨r5, rfl, r50, r51, hs7, hc⟩
    go_wp2_with fail
    refine hK.out _ _ (FD.chg hHeld hc (by omega) (by omega) (by omega) (by omega) (by omega) (by omega) ) (fun hHeld => ?_)
    clear hK K hc
    (try simp only [Act.put, List.setIfInBounds_toArray, List.set_cons_zero, List.set_cons_succ])
    (refine Ord.takeH 7 34 (v := ?_) rfl rfl (by kernel_rfl) (by kernel_rfl) (by kernel_rfl) (fun _ _ _ h => h) (by rfl) ?_ (by assumption) ?_; rotate_left; (intro w hSw; (try dsimp only at hSw); go_simp; (first | done | with_reducible rfl)); (try simp only [Act.put, List.setIfInBounds_toArray, List.set_cons_zero, List.set_cons_succ])); (refine Ord.takeH 8 35 (v := ?_) rfl rfl (by kernel_rfl) (by kernel_rfl) (by kernel_rfl) (fun _ _ _ h => h) (by rfl) ?_ (by assumption) ?_; rotate_left; (intro w hSw; (try dsimp only at hSw); go_simp; (first | done | with_reducible rfl)); (try simp only [Act.put, List.setIfInBounds_toArray, List.set_cons_zero, List.set_cons_succ]))
    refine Exists.elim hHeld.2.1 (fun v hv => ?_)
    obtain ⟨k0, l0⟩ := hv 0 _ rfl
    refine wpAnyH_ready (rs := [9]) (by kernel_rfl) (by simp) ?_
    refine AllReadyH.cons rfl (fun K hK => ?_) AllReadyH.nil
    go_simp
    have hQ := FD.put1 hHeld (Nat.le_refl _) (by omega) (by omega) (by omega) (.slice (some ⟨g, 0, none⟩) n tc)
    have Q1 := hv.set 0 (by simp) (.slice (some ⟨g, 0, none⟩) n tc)
    refine hK.out _ _ hQ (fun hHeld => ?_)
    clear hK K hQ k0 l0 hv
    (try simp only [Act.put, List.setIfInBounds_toArray, List.set_cons_zero, List.set_cons_succ])
    refine Exists.elim hHeld.2.2.1 (fun m hm => ?_)
    refine Exists.elim hm (fun m' hm => ?_)
    refine Exists.elim hm (fun m'' hm => ?_)
    refine Exists.elim hm (fun m''' hm => ?_)
    obtain ⟨⟨m0, m1, m2, m3⟩, o0, o1, o2, o3⟩ := hm.four
    refine wpAnyH_ready (rs := [10]) (by kernel_rfl) (by simp) ?_
    refine AllReadyH.cons rfl (fun K hK => ?_) AllReadyH.nil
    go_simp
    have hQ := FD.put4 hHeld (Nat.le_refl _) (by omega) (by omega) (by omega) (.int .i64 x) (.int .i64 y) (.int .i64 z) (.int .i64 t)
    have Q2 := Box.away4 (m := w.heap.size + 1) (i := 0) (j := 1) (k := 2) (l := 3) (a := .int .i64 x) (b := .int .i64 y) (c := .int .i64 z) (d := .int .i64 t) Q1 (by omega)
    have Q3 := Box.set4 (a := .int .i64 x) (b := .int .i64 y) (c := .int .i64 z) (d := .int .i64 t) hm
    refine hK.out _ _ hQ (fun hHeld => ?_)
    clear hK K m0 m1 m2 m3 o0 o1 o2 o3 hm Q1
    (try simp only [Act.put, List.setIfInBounds_toArray, List.set_cons_zero, List.set_cons_succ])
    (refine Ord.takeH 11 4 (v := ?_) rfl rfl (by kernel_rfl) (by kernel_rfl) (by kernel_rfl) (fun _ _ _ h => h) (by rfl) ?_ (by assumption) ?_; rotate_left; (intro w hSw; (try dsimp only at hSw); go_simp; (first | done | with_reducible rfl)); (try simp only [Act.put, List.setIfInBounds_toArray, List.set_cons_zero, List.set_cons_succ])); (refine Ord.takeH 12 5 (v := ?_) rfl rfl (by kernel_rfl) (by kernel_rfl) (by kernel_rfl) (fun _ _ _ h => h) (by rfl) ?_ (by assumption) ?_; rotate_left; (intro w hSw; (try dsimp only at hSw); go_simp; (first | done | with_reducible rfl)); (try simp only [Act.put, List.setIfInBounds_toArray, List.set_cons_zero, List.set_cons_succ]))
    refine wpAnyH_done (by kernel_rfl) ?_ _
    go_wp2
    exact fc_done (n := w.heap.size) (g := g) (k := n) (cap := tc) (a := x) (b := y) (c := z) (d := t) Q2 Q3 h41 htc hHeld.2.2.2.2.1 hHeld.1 rfl rfl rfl rfl

end Go.Proofs.Ytccggjhmnbebbaa.Trk
