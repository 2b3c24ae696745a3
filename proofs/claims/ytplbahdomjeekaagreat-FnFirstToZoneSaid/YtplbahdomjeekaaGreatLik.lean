import Derived.Test.YtplbahdomjeekaaGreatMZon9
namespace Go.Proofs.YtplbahdomjeekaaGreat.Crs
open Go.ChangeShapes Go.WideShapes Go.ChangeAt Go.RowKit Go.PlainAid
open Go.Proofs.YtplbahdomjeekaaGreat.Num Go.Proofs.YtplbahdomjeekaaGreat.Kit
set_option linter.unusedVariables false
set_option linter.unusedSimpArgs false
set_option maxHeartbeats 1000000 in
theorem likeInts_same (a b : Option Addr) (cap cap' : Nat) (zs : List Int) (w : World) (ha : Zxs w a zs) (hb : Zxs w b zs) : Calls Tryz.prog 37 #[.slice a zs.length cap, .slice b zs.length cap'] w fun e w' => e = .returned (.bool true) ∧ Ext w w' := by
  have hm := ha.1
  unfold maxLen at hm
  have HA := Lib.hid ha
  have HB := Lib.hid hb
  clear ha hb
  go_enter Tryz.func37, Tryz.ntmps37
  go_wp2
  go_loopw [5] (fun i wr => RelE w zs.length i wr) (fun i _ => zs.length - (intOf i).toNat)
  case atStart => exact ⟨0, rfl, Nat.zero_le _, Ext.refl _⟩
  case round =>
    obtain ⟨k, rfl, hk, hx⟩ := hrel
    have HX := Lib.hid hx
    clear hx
    by_cases hk1 : k < zs.length
    · obtain ⟨b1, o1, rfl, h1⟩ := HA.out.row (by omega)
      obtain ⟨b2, o2, rfl, h2⟩ := HB.out.row (by omega)
      have e0 : ∀ w', Ext wr w' → w'.cell? ⟨b1, o1 + k, none⟩ = some (.int .i64 (nz zs k)) := fun w' h => (HX.out.trans h).cellOf (h1 k hk1)
      have e1 : ∀ w', Ext wr w' → w'.cell? ⟨b2, o2 + k, none⟩ = some (.int .i64 (nz zs k)) := fun w' h => (HX.out.trans h).cellOf (h2 k hk1)
      clear h1 h2
      have i0 : (0 : Int) ≤ (k : Int) := by omega
      have i1 : (k : Int) < (zs.length : Int) := by omega
      go_wp2_with fail
      refine wp_region_held_drew (S := (fun w' => Ext wr w')) (by kernel_rfl) (by (try dsimp only); first | go_keep | exact (Ext.refl _).drew | exact Res.new2.drew | exact Res.new4.drew | exact ResB.drew (by assumption) | exact ResC.drew (by assumption) | assumption | exact Ext.drew (by assumption) | exact Res.drew (by assumption)) (fun hHeld => ?_)
      (refine Ord.k 0 17 (v := ?_) ?_ ?_; rotate_left; (intro w h; (try dsimp only at h); go_simp; (try with_reducible rfl)); (try simp only [Act.put, Ord.a, Ord.b, Ord.c]))
      (refine Ord.k 1 18 (v := ?_) ?_ ?_; rotate_left; (intro w h; (try dsimp only at h); go_simp; (try with_reducible rfl)); (try simp only [Act.put, Ord.a, Ord.b, Ord.c]))
      (refine Ord.k 2 19 (v := ?_) ?_ ?_; rotate_left; (intro w h; (try dsimp only at h); go_simp; (try with_reducible rfl)); (try simp only [Act.put, Ord.a, Ord.b, Ord.c]))
      (refine Ord.k 3 20 (v := ?_) ?_ ?_; rotate_left; (intro w h; (try dsimp only at h); go_simp; (try with_reducible rfl)); (try simp only [Act.put, Ord.a, Ord.b, Ord.c]))
      (refine Ord.k 4 21 (v := ?_) ?_ ?_; rotate_left; (intro w h; (try dsimp only at h); go_simp; (try with_reducible rfl)); (try simp only [Act.put, Ord.a, Ord.b, Ord.c]))
      (refine Ord.k 5 22 (v := ?_) ?_ ?_; rotate_left; (intro w h; (try dsimp only at h); go_simp; (try with_reducible rfl)); (try simp only [Act.put, Ord.a, Ord.b, Ord.c]))
      (refine Ord.k 6 23 (v := ?_) ?_ ?_; rotate_left; (intro w h; (try dsimp only at h); go_simp; (try with_reducible rfl)); (try simp only [Act.put, Ord.a, Ord.b, Ord.c]))
      (refine Ord.k 7 24 (v := ?_) ?_ ?_; rotate_left; (intro w h; (try dsimp only at h); go_simp; (try with_reducible rfl)); (try simp only [Act.put, Ord.a, Ord.b, Ord.c]))
      (refine Ord.k 8 25 (v := ?_) ?_ ?_; rotate_left; (intro w h; (try dsimp only at h); go_simp; (try with_reducible rfl)); (try simp only [Act.put, Ord.a, Ord.b, Ord.c]))
      refine wpAnyH_done (by kernel_rfl) ?_ _
      have HX2 := Lib.hid (HX.out.trans hHeld)
      go_wp2
      go_roundw
      case rel => exact ⟨k + 1, by go_num, by omega, HX2.out⟩
      case measure => simp [intOf]; omega
    · obtain rfl : k = zs.length := by omega
      go_wp2
      go_ret
      exact ⟨rfl, HX.out⟩
theorem OwnR.rowAt {w : World} {base n c k : Nat} {a : Option Addr} {vs : List V2} {gs : List Nat} (h : OwnR w base (.slice a n c) vs gs) (hk : k < vs.length) :
    ∃ b, a = some ⟨b, 0, none⟩ ∧ w.cell? ⟨b, k, none⟩ = some (rowV (gb gs k)) ∧ PairAt w (gb gs k) (vx vs k) := by
  rcases row_cases h.row with ⟨hv, hn0⟩ | ⟨g', cap', hv, _⟩
  · omega
  · simp at hv
    obtain ⟨rfl, rfl, rfl⟩ := hv
    have p0 := World.ownsRow.cellAt h.row k (by omega)
    rw [show (cellsR gs)[k]? = some (rowV (gb gs k)) by simp [cellsR, gb_at (show k < gs.length by rw [h.len]; exact hk)]] at p0
    exact ⟨g', rfl, p0, (h.at_ k hk).2.2⟩
theorem OwnR.val {w : World} {base : Nat} {o : Value} {vs : List V2} {gs : List Nat} (h : OwnR w base o vs gs) : ∃ a c, o = .slice a vs.length c := by
  rcases row_cases h.row with ⟨hv, hn0⟩ | ⟨g', cap', hv, _⟩
  · exact ⟨none, 0, by rw [hv, hn0]⟩
  · exact ⟨_, cap', hv⟩
theorem PairAt.zxs {w : World} {q : Nat} {v : V2} (h : PairAt w q v) : Zxs w (some ⟨q, 0, none⟩) [v.f, v.l] :=
  ⟨by simp [maxLen], .inr ⟨q, 0, rfl, fun i hi => by
    rcases (show i = 0 ∨ i = 1 by simp at hi; omega) with rfl | rfl
    · exact (h 0 _ rfl).1
    · exact (h 1 _ rfl).1⟩⟩
set_option maxHeartbeats 1000000 in
theorem likeRows_same (a b : Option Addr) (c1 c2 b1 b2 : Nat) (vs : List V2) (g1 g2 : List Nat) (w : World) (ha : OwnR w b1 (.slice a vs.length c1) vs g1) (hb : OwnR w b2 (.slice b vs.length c2) vs g2) (hl : vs.length ≤ 1000) :
    Calls Tryz.prog 28 #[.slice a vs.length c1, .slice b vs.length c2] w fun e w' => e = .returned (.bool true) ∧ Ext w w' := by
  have HA := Lib.hid ha
  have HB := Lib.hid hb
  clear ha hb
  go_enter Tryz.func28, Tryz.ntmps28
  go_wp2
  go_loopw [5] (fun i wr => RelE w vs.length i wr) (fun i _ => vs.length - (intOf i).toNat)
  case atStart => exact ⟨0, rfl, Nat.zero_le _, Ext.refl _⟩
  case round =>
    obtain ⟨k, rfl, hk, hx⟩ := hrel
    have HX := Lib.hid hx
    clear hx
    by_cases hk1 : k < vs.length
    · obtain ⟨q1, rfl, h1, pa⟩ := (HA.out.ext HX.out).rowAt hk1
      obtain ⟨q2, rfl, h2, pb⟩ := (HB.out.ext HX.out).rowAt hk1
      have e0 : ∀ w', Ext wr w' → w'.cell? ⟨q1, k, none⟩ = some (rowV (gb g1 k)) := fun w' h => h.cellOf h1
      have e1 : ∀ w', Ext wr w' → w'.cell? ⟨q2, k, none⟩ = some (rowV (gb g2 k)) := fun w' h => h.cellOf h2
      have KE := Lib.hid (fun w' (h : Ext wr w') => likeInts_same (some ⟨gb g1 k, 0, none⟩) (some ⟨gb g2 k, 0, none⟩) 2 2 [(vx vs k).f, (vx vs k).l] w' (pa.zxs.ext h) (pb.zxs.ext h))
      clear h1 h2 pa pb
      generalize gb g1 k = x1 at *
      generalize gb g2 k = x2 at *
      have i0 : (0 : Int) ≤ (k : Int) := by omega
      have i1 : (k : Int) < (vs.length : Int) := by omega
      have T0 : IntKind.i64.wrap ((k : Int) + 1) = (k : Int) + 1 := IntWalk.i64_in _ (by omega)
      go_wp2_with fail
      refine wp_region_held_drew (S := (fun w' => Ext wr w')) (by kernel_rfl) (by (try dsimp only); first | go_keep | exact (Ext.refl _).drew | exact Res.new2.drew | exact Res.new4.drew | exact ResB.drew (by assumption) | exact ResC.drew (by assumption) | assumption | exact Ext.drew (by assumption) | exact Res.drew (by assumption)) (fun hHeld => ?_)
      (refine Ord.k 0 17 (v := ?_) ?_ ?_; rotate_left; (intro w h; (try dsimp only at h); go_simp; (try with_reducible rfl)); (try simp only [Act.put, Ord.a, Ord.b, Ord.c]))
      (refine Ord.k 1 18 (v := ?_) ?_ ?_; rotate_left; (intro w h; (try dsimp only at h); go_simp; (try with_reducible rfl)); (try simp only [Act.put, Ord.a, Ord.b, Ord.c]))
      (refine Ord.k 2 19 (v := ?_) ?_ ?_; rotate_left; (intro w h; (try dsimp only at h); go_simp; (try with_reducible rfl)); (try simp only [Act.put, Ord.a, Ord.b, Ord.c]))
      (refine Ord.k 3 20 (v := ?_) ?_ ?_; rotate_left; (intro w h; (try dsimp only at h); go_simp; (try with_reducible rfl)); (try simp only [Act.put, Ord.a, Ord.b, Ord.c]))
      (refine Ord.k 4 21 (v := ?_) ?_ ?_; rotate_left; (intro w h; (try dsimp only at h); go_simp; (try with_reducible rfl)); (try simp only [Act.put, Ord.a, Ord.b, Ord.c]))
      (refine Ord.k 5 22 (v := ?_) ?_ ?_; rotate_left; (intro w h; (try dsimp only at h); go_simp; (try with_reducible rfl)); (try simp only [Act.put, Ord.a, Ord.b, Ord.c]))
      (refine Ord.k 6 23 (v := ?_) ?_ ?_; rotate_left; (intro w h; (try dsimp only at h); go_simp; (try with_reducible rfl)); (try simp only [Act.put, Ord.a, Ord.b, Ord.c]))
      (refine Ord.k 7 24 (v := ?_) ?_ ?_; rotate_left; (intro w h; (try dsimp only at h); go_simp; (try with_reducible rfl)); (try simp only [Act.put, Ord.a, Ord.b, Ord.c]))
      (refine wpAnyH_ready (rs := [8]) (by kernel_rfl) (by simp) ?_; refine AllReadyH.cons rfl (fun K hK => ?_) AllReadyH.nil; go_simp; (go_at_call 37; refine (KE.out _ (by first | assumption | exact (Ext.refl _).drew)).mono ?_; rintro e wy ⟨rfl, hy⟩); go_wp2_with fail; (refine hK.out _ _ (by first | assumption | exact Ext.trans (by assumption) hy | exact Res.ext (by assumption) hy | exact ResB.ext (by assumption) hy | exact ResC.ext (by assumption) hy | (go_split_ands; (repeat' apply And.intro) <;> exact Ext.cellOf hy (by assumption))) (fun hHeld => ?_)); clear hK K; (try simp only [Act.put, Ord.a, Ord.b, Ord.c]))
      (refine Ord.k 9 26 (v := ?_) ?_ ?_; rotate_left; (intro w h; (try dsimp only at h); go_simp; (try with_reducible rfl)); (try simp only [Act.put, Ord.a, Ord.b, Ord.c]))
      refine wpAnyH_done (by kernel_rfl) ?_ _
      have HX2 := Lib.hid (HX.out.trans (by assumption : Ext wr wy))
      go_wp2
      go_roundw
      case rel => exact ⟨k + 1, by go_num, by omega, HX2.out⟩
      case measure => simp [intOf]; omega
    · obtain rfl : k = vs.length := by omega
      go_wp2
      go_ret
      exact ⟨rfl, HX.out⟩
end Go.Proofs.YtplbahdomjeekaaGreat.Crs
