/- Contracts of chapter 5's draws of a track with a line. -/
import Derived.Test.YtccggjhmnbebbaaDrawLn
import Derived.Test.YtccggjhmnbebbaaDrawM
namespace Go.Proofs.Ytccggjhmnbebbaa.Trk
open Go.ChangeShapes Go.WideShapes Go.ChangeAt Go.RowKit
open Go.Proofs.Ytccggjhmnbebbaa.Num Go.Proofs.Ytccggjhmnbebbaa.Kit Go.Proofs.Ytccggjhmnbebbaa.Pts Go.Proofs.Ytccggjhmnbebbaa.Draw Go.Proofs.Ytccggjhmnbebbaa.Seg
set_option linter.unusedVariables false
set_option linter.unusedSimpArgs false

/-- A track and a line that a draw made. -/
def AnyTL (B : Nat) (w : World) (e : Ending) (w' : World) : Prop :=
  ∃ (g cap n : Nat) (a b c d : Int), e = .returned (.tuple #[Tr (.slice (some ⟨g, 0, none⟩) n cap), Sg a b c d]) ∧ 1 ≤ n ∧ n ≤ 41 ∧ n ≤ cap ∧ w.heap.size ≤ g ∧ IntRow w' g n ∧ Src w' B ∧ Chg B w w'
/-- While a draw gathers a track and a line: blocks R and R + 1 may be written, box T holds the track. -/
def LD (w : World) (B R T g n : Nat) (V : Value) (w' : World) : Prop :=
  Chg B w w' ∧ (∃ v, Box w' R [v]) ∧ (∃ a b c d, Box w' (R + 1) [a, b, c, d]) ∧ w'.cell? ⟨T, 0, none⟩ = some V ∧ IntRow w' g n
theorem LD.chg {w : World} {B R T g n : Nat} {V : Value} {a b : World} (h : LD w B R T g n V a) (k : Chg B a b) (h1 : R ≠ B) (h2 : R + 1 ≠ B) (h3 : T ≠ B) (h4 : g ≠ B) : LD w B R T g n V b := by
  obtain ⟨hC, ⟨v, hv⟩, ⟨x, y, z, t, hx⟩, hT, hI⟩ := h
  exact ⟨hC.trans k, ⟨v, hv.chg k h1⟩, ⟨x, y, z, t, hx.chg k h2⟩, k.cellOf h3 hT, hI.chg k h4⟩
theorem LD.drew {w : World} {B R T g n : Nat} {V : Value} {a : World} (h : LD w B R T g n V a) : LD w B R T g n V a.drew := by
  obtain ⟨hC, ⟨v, hv⟩, ⟨x, y, z, t, hx⟩, hT, hI⟩ := h
  exact ⟨hC.drew, ⟨v, hv.drew⟩, ⟨x, y, z, t, hx.drew⟩, ((Ext.refl a).drew).cellOf hT, hI.ext (Ext.refl a).drew⟩

theorem LD.put1 {w : World} {B R T g n : Nat} {V : Value} {u : World} (h : LD w B R T g n V u) (h0 : w.heap.size ≤ R) (h1 : T ≠ R) (h2 : g ≠ R) (x : Value) : LD w B R T g n V (u.setCell ⟨R, 0, none⟩ x) := by
  obtain ⟨hC, ⟨v, hv⟩, ⟨p, q, r, s, hx⟩, hT, hI⟩ := h
  have k : Chg R u (u.setCell ⟨R, 0, none⟩ x) := (Chg.refl _ _).setCell _ _
  exact ⟨hC.setNew (by simpa using h0) x, ⟨x, hv.set 0 (by simp) x⟩, ⟨p, q, r, s, hx.chg k (by omega)⟩, k.cellOf h1 hT, hI.chg k h2⟩
theorem LD.put4 {w : World} {B R T g n : Nat} {V : Value} {u : World} (h : LD w B R T g n V u) (h0 : w.heap.size ≤ R) (h1 : T ≠ R + 1) (h2 : g ≠ R + 1) (x y z t : Value) : LD w B R T g n V ((((u.setCell ⟨R + 1, 0, none⟩ x).setCell ⟨R + 1, 1, none⟩ y).setCell ⟨R + 1, 2, none⟩ z).setCell ⟨R + 1, 3, none⟩ t) := by
  obtain ⟨hC, ⟨v, hv⟩, ⟨p, q, r, s, hx⟩, hT, hI⟩ := h
  have k : Chg (R + 1) u ((((u.setCell ⟨R + 1, 0, none⟩ x).setCell ⟨R + 1, 1, none⟩ y).setCell ⟨R + 1, 2, none⟩ z).setCell ⟨R + 1, 3, none⟩ t) := ((((Chg.refl _ _).setCell _ _).setCell _ _).setCell _ _).setCell _ _
  exact ⟨(((hC.setNew (by simp; omega) x).setNew (by simp; omega) y).setNew (by simp; omega) z).setNew (by simp; omega) t, ⟨v, hv.chg k (by omega)⟩, ⟨x, y, z, t, Box.set4 hx⟩, k.cellOf h1 hT, hI.chg k h2⟩

theorem tl_done {B n g cap k : Nat} {w F : World} {tmps : Array Value} {a b c d : Int} (R : Box F n [.slice (some ⟨g, 0, none⟩) k cap]) (T : Box F (n + 1) [.int .i64 a, .int .i64 b, .int .i64 c, .int .i64 d]) (h1 : 1 ≤ k) (h2 : k ≤ 41) (h3 : k ≤ cap) (h4 : w.heap.size ≤ g) (hI : IntRow F g k) (hs : Src F B) (hC : Chg B w F)
    (ha : tmps[2]? = some (.pointer (some ⟨n, 0, none⟩))) (hb : tmps[3]? = some (.pointer (some ⟨n + 1, 0, none⟩))) : bodyPost Try.prog Try.f21 (AnyTL B w) Exit.ret ⟨tmps, []⟩ F := by
  obtain ⟨⟨f0, f1, f2, f3⟩, _⟩ := T.four
  have g0 := (R 0 _ rfl).1
  exact bodyPost_ret (v := .tuple #[Tr (.slice (some ⟨g, 0, none⟩) k cap), Sg a b c d]) (by simp [results, Try.results21, go_sem, ha, hb, g0, f0, f1, f2, f3]) rfl ⟨g, cap, k, a, b, c, d, rfl, h1, h2, h3, h4, hI, hs, hC⟩

set_option maxRecDepth 100000 in
set_option maxHeartbeats 2000000 in
theorem draw5_any (B : Nat) (w : World) (hs : Src w B) : Calls Try.prog 21 #[.pointer (some ⟨B, 0, none⟩)] w (AnyTL B w) := by
  have hB := hs.lt
  obtain ⟨W0, hW0⟩ : ∃ W0, W0 = (w.alloc (.cells #[.slice none 0 0] 26)).alloc (.cells #[.int .i64 0, .int .i64 0, .int .i64 0, .int .i64 0] 30) := ⟨_, rfl⟩
  have hX : Ext w W0 := hW0 ▸ ((Ext.refl w).alloc _).alloc _
  have hz0 : W0.heap.size = w.heap.size + 1 + 1 := by rw [hW0]; simp
  have R1 := Lib.hid (show Box W0 w.heap.size [.slice none 0 0] by rw [hW0]; exact (Box.new rfl).alloc _)
  have R2 := Lib.hid (show Box W0 (w.heap.size + 1) [.int .i64 0, .int .i64 0, .int .i64 0, .int .i64 0] by rw [hW0]; exact Box.new4 (by simp))
  have hs0 := hs.ext hX
  go_enter Try.func21, Try.ntmps21
  go_wp2_with fail
  rw [← hW0]
  clear hW0
  refine (drawAnyT_any _ _ hs0).mono ?_
  rintro e w2 ⟨g, tc, n, rfl, h1, h41, htc, hg, hI, hs2, hc⟩
  have hgl : g < w2.heap.size := World.block_lt_of_cell? w2 _ (hI 0 (by omega)).1.choose_spec
  have zc := hc.size
  obtain ⟨wA, hwA⟩ : ∃ wA, wA = w2.alloc (.cells #[.slice (some ⟨g, 0, none⟩) n tc] 26) := ⟨_, rfl⟩
  have hA : Ext w2 wA := hwA ▸ (Ext.refl _).alloc _
  have S3 : LD w B w.heap.size w2.heap.size g n (.slice (some ⟨g, 0, none⟩) n tc) wA :=
    ⟨((Chg.of_ext hX).trans hc).trans (Chg.of_ext hA), ⟨_, (R1.out.chg hc (by omega)).ext hA⟩, ⟨_, _, _, _, (R2.out.chg hc (by omega)).ext hA⟩, hwA ▸ boxed 0 rfl rfl, hI.ext hA⟩
  have hsA := hs2.ext hA
  have et : ∀ w', LD w B w.heap.size w2.heap.size g n (.slice (some ⟨g, 0, none⟩) n tc) w' → w'.cell? ⟨w2.heap.size, 0, none⟩ = some (.slice (some ⟨g, 0, none⟩) n tc) := fun w' h => h.2.2.2.1
  replace hI := Lib.hid (hI.ext hA)
  clear hs hs0 hs2 hc R1 R2 hX hA
  go_upto_region 2 with fail
  rw [← hwA]
  clear hwA
  refine wp_region_held_drew (S := LD w B w.heap.size w2.heap.size g n (.slice (some ⟨g, 0, none⟩) n tc)) (by kernel_rfl) (by (try dsimp only); exact S3.drew) (fun hHeld => ?_)
  (refine Ord.takeH 0 7 (v := ?_) rfl rfl (by kernel_rfl) (by kernel_rfl) (by kernel_rfl) (fun _ _ _ h => h) (by rfl) ?_ (by assumption) ?_; rotate_left; (intro w hSw; (try dsimp only at hSw); go_simp; (first | done | with_reducible rfl)); (try simp only [Act.put, List.setIfInBounds_toArray, List.set_cons_zero, List.set_cons_succ])); (refine Ord.takeH 1 8 (v := ?_) rfl rfl (by kernel_rfl) (by kernel_rfl) (by kernel_rfl) (fun _ _ _ h => h) (by rfl) ?_ (by assumption) ?_; rotate_left; (intro w hSw; (try dsimp only at hSw); go_simp; (first | done | with_reducible rfl)); (try simp only [Act.put, List.setIfInBounds_toArray, List.set_cons_zero, List.set_cons_succ])); (refine Ord.takeH 2 9 (v := ?_) rfl rfl (by kernel_rfl) (by kernel_rfl) (by kernel_rfl) (fun _ _ _ h => h) (by rfl) ?_ (by assumption) ?_; rotate_left; (intro w hSw; (try dsimp only at hSw); go_simp; (first | done | with_reducible rfl)); (try simp only [Act.put, List.setIfInBounds_toArray, List.set_cons_zero, List.set_cons_succ]))
  refine wpAnyH_ready (rs := [3]) (by kernel_rfl) (by simp) ?_
  refine AllReadyH.cons rfl (fun K hK => ?_) AllReadyH.nil
  go_simp
  go_at_call 42
  refine (drawLine_any B g tc n _ hsA.drew (hI.out.ext (Ext.refl _).drew) (by omega) h1 h41 htc).mono ?_
  rintro e w4 ⟨a, b, c, d, rfl, hs4, hc4⟩
  go_wp2_with fail
  refine hK.out _ _ (LD.chg hHeld hc4 (by omega) (by omega) (by omega) (by omega)) (fun hHeld => ?_)
  clear hK K
  (try simp only [Act.put, List.setIfInBounds_toArray, List.set_cons_zero, List.set_cons_succ])
  refine Exists.elim hHeld.2.1 (fun v hv => ?_)
  obtain ⟨k0, l0⟩ := hv 0 _ rfl
  refine wpAnyH_ready (rs := [4]) (by kernel_rfl) (by simp) ?_
  refine AllReadyH.cons rfl (fun K hK => ?_) AllReadyH.nil
  go_simp
  have hQ := LD.put1 hHeld (Nat.le_refl _) (by omega) (by omega) (.slice (some ⟨g, 0, none⟩) n tc)
  have Q1 := hv.set 0 (by simp) (.slice (some ⟨g, 0, none⟩) n tc)
  have hs5 := hs4.setCell (p := ⟨w.heap.size, 0, none⟩) (by simpa using hB) (.slice (some ⟨g, 0, none⟩) n tc)
  refine hK.out _ _ hQ (fun hHeld => ?_)
  clear hK K hQ k0 l0 hv
  (try simp only [Act.put, List.setIfInBounds_toArray, List.set_cons_zero, List.set_cons_succ])
  refine Exists.elim hHeld.2.2.1 (fun x hx => ?_)
  refine Exists.elim hx (fun y hx => ?_)
  refine Exists.elim hx (fun z hx => ?_)
  refine Exists.elim hx (fun t hx => ?_)
  obtain ⟨⟨m0, m1, m2, m3⟩, o0, o1, o2, o3⟩ := hx.four
  refine wpAnyH_ready (rs := [5]) (by kernel_rfl) (by simp) ?_
  refine AllReadyH.cons rfl (fun K hK => ?_) AllReadyH.nil
  go_simp
  have hQ := LD.put4 hHeld (Nat.le_refl _) (by omega) (by omega) (.int .i64 a) (.int .i64 b) (.int .i64 c) (.int .i64 d)
  have Q2 := Box.away4 (m := w.heap.size + 1) (i := 0) (j := 1) (k := 2) (l := 3) (a := .int .i64 a) (b := .int .i64 b) (c := .int .i64 c) (d := .int .i64 d) Q1 (by omega)
  have Q3 := Box.set4 (a := .int .i64 a) (b := .int .i64 b) (c := .int .i64 c) (d := .int .i64 d) hx
  have hs6 := (((hs5.setCell (p := ⟨w.heap.size + 1, 0, none⟩) (by simp; omega) (.int .i64 a)).setCell (p := ⟨w.heap.size + 1, 1, none⟩) (by simp; omega) (.int .i64 b)).setCell (p := ⟨w.heap.size + 1, 2, none⟩) (by simp; omega) (.int .i64 c)).setCell (p := ⟨w.heap.size + 1, 3, none⟩) (by simp; omega) (.int .i64 d)
  refine hK.out _ _ hQ (fun hHeld => ?_)
  clear hK K m0 m1 m2 m3 o0 o1 o2 o3 hx Q1 hs5
  (try simp only [Act.put, List.setIfInBounds_toArray, List.set_cons_zero, List.set_cons_succ])
  refine wpAnyH_done (by kernel_rfl) ?_ _
  go_wp2
  exact tl_done (n := w.heap.size) (g := g) (k := n) (cap := tc) (a := a) (b := b) (c := c) (d := d) Q2 Q3 h1 h41 htc (by omega) hHeld.2.2.2.2 hs6 hHeld.1 rfl rfl

end Go.Proofs.Ytccggjhmnbebbaa.Trk
