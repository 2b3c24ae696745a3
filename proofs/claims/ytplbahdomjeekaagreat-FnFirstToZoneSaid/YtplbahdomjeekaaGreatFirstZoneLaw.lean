import Derived.Test.YtplbahdomjeekaaGreatDrawFt
import Derived.Test.YtplbahdomjeekaaGreatZon8
import Derived.Test.YtplbahdomjeekaaGreatZon6
import Derived.Test.YtplbahdomjeekaaGreatLik
import Derived.Test.YtplbahdomjeekaaGreatBig
import Derived.ChangeOld
import Derived.Below
import Derived.Lib.SmallJoins
namespace Go.Proofs.YtplbahdomjeekaaGreat.fnFirstToZone
open Go.ChangeShapes Go.WideShapes Go.ChangeAt Go.RowKit
open Go.Proofs.YtplbahdomjeekaaGreat.Kit Go.Proofs.YtplbahdomjeekaaGreat.Num Go.Proofs.YtplbahdomjeekaaGreat.Draw Go.Proofs.YtplbahdomjeekaaGreat.Pts Go.Proofs.YtplbahdomjeekaaGreat.Seg Go.Proofs.YtplbahdomjeekaaGreat.Crs Go.Proofs.YtplbahdomjeekaaGreat.Rt
open Go.Proofs.YtplbahdomjeekaaGreat.Trk (F3 Fxs Tr IntRow trB fx)
set_option linter.unusedVariables false
set_option linter.unusedSimpArgs false
theorem fz_facts {m : M5} {ts : List T1} : ∀ n, ((fzS m ts n).1 < 0 ∧ ∀ i, i < n → tzL m (tk ts i).fs = []) ∨
    ∃ (j : Nat) (x : Int) (xs : List Int), j < n ∧ (fzS m ts n).1 = j ∧ tzL m (tk ts j).fs = x :: xs ∧ (fzS m ts n).2 = beT (tk ts j).fs x ∧ ∀ i, i < n → ∀ y ys, tzL m (tk ts i).fs = y :: ys → (fzS m ts n).2 ≤ beT (tk ts i).fs y
  | 0 => .inl ⟨by show (-1 : Int) < 0; decide, fun i hi => absurd hi (by omega)⟩
  | n + 1 => by
    have ih := fz_facts (m := m) (ts := ts) n
    cases hz : tzL m (tk ts n).fs with
    | nil =>
      rw [fz_nil hz]
      rcases ih with ⟨h1, h2⟩ | ⟨j, x, xs, hj, e1, e2, e3, h⟩
      · exact .inl ⟨h1, fun i hi => by
          rcases Nat.lt_or_ge i n with g | g
          · exact h2 i g
          · obtain rfl : i = n := by omega
            exact hz⟩
      · exact .inr ⟨j, x, xs, by omega, e1, e2, e3, fun i hi y ys hy => by
          rcases Nat.lt_or_ge i n with g | g
          · exact h i g y ys hy
          · obtain rfl : i = n := by omega
            rw [hz] at hy; cases hy⟩
    | cons x xs =>
      by_cases hg : (fzS m ts n).1 < 0 ∨ beT (tk ts n).fs x < (fzS m ts n).2
      · rw [fz_yes hz hg]
        refine .inr ⟨n, x, xs, by omega, rfl, hz, rfl, fun i hi y ys hy => ?_⟩
        rcases Nat.lt_or_ge i n with g | g
        · rcases ih with ⟨h1, h2⟩ | ⟨j, x', xs', hj, e1, e2, e3, h⟩
          · rw [h2 i g] at hy; cases hy
          · have := h i g y ys hy
            rcases hg with hg | hg
            · omega
            · show beT (tk ts n).fs x ≤ _; omega
        · obtain rfl : i = n := by omega
          rw [hz] at hy; cases hy; exact Int.le_refl _
      · rw [fz_no hz hg]
        rcases ih with ⟨h1, h2⟩ | ⟨j, x', xs', hj, e1, e2, e3, h⟩
        · exact absurd (.inl h1) hg
        · exact .inr ⟨j, x', xs', by omega, e1, e2, e3, fun i hi y ys hy => by
            rcases Nat.lt_or_ge i n with g | g
            · exact h i g y ys hy
            · obtain rfl : i = n := by omega
              rw [hz] at hy
              injection hy with h1 _
              subst h1
              have : ¬ beT (tk ts i).fs x < (fzS m ts i).2 := fun q => hg (.inr q)
              omega⟩
theorem fz_ok {l k : L4} {ms : List M5} {ts : List T1} {q : Int} (h : fzC l k ms ts q = 0) :
    ∃ (i j x : Nat) (xs : List Int), q = i ∧ i < ms.length ∧ j < ts.length ∧ fzV l k ms ts q = j ∧ tzL (mk ms i) (tk ts j).fs = (x : Int) :: xs ∧ x + 1 < (tk ts j).fs.length ∧
      (∀ b, b < ts.length → mfC l k ms (trB (tk ts b).fs) i = 0 ∧ trB (tk ts b).fs = true) ∧ ∀ b, b < ts.length → ∀ y ys, tzL (mk ms i) (tk ts b).fs = y :: ys → (fx (tk ts j).fs x).t ≤ beT (tk ts b).fs y := by
  by_cases h16 : 16 < ts.length
  · rw [(fz_many h16).1] at h; cases h
  by_cases hm : mfC l k ms (tsB ts) q = 0
  rotate_left
  · rw [(fz_bad h16 hm).1] at h; exact absurd h hm
  obtain ⟨hc, ht, q0, q1⟩ := mf_zero hm
  obtain ⟨i, rfl⟩ : ∃ i : Nat, q = i := ⟨q.toNat, by omega⟩
  by_cases hf : (fzS (mk ms i) ts ts.length).1 < 0
  · rw [(fz_none h16 hm hf).1] at h; cases h
  have hv := (fz_one h16 hm hf).2
  rcases fz_facts (m := mk ms i) (ts := ts) ts.length with ⟨h1, _⟩ | ⟨j, x, xs, hj, e1, e2, e3, hle⟩
  · exact absurd h1 hf
  obtain ⟨x, rfl, hx⟩ := tz_head e2
  refine ⟨i, j, x, xs, rfl, by omega, hj, by rw [hv, e1], e2, hx, fun b hb => ⟨mf_yes hc (tsB_yes ht hb) ⟨q0, q1⟩, tsB_yes ht hb⟩, fun b hb y ys hy => ?_⟩
  have := hle b hb y ys hy
  rw [e3] at this
  simpa [beT] using this
def RelZl (W : World) (n : Nat) (i : Value) (wr : World) : Prop := ∃ j : Nat, i = .int .i64 j ∧ j ≤ n ∧ Ext W wr
set_option maxRecDepth 100000 in
set_option maxHeartbeats 16000000 in
theorem walk (c0 : Option Addr) (len cap : Nat) (zs0 : List Int) (w : World) (hr : IsRow .u8 w c0 len cap zs0) :
    Calls Tryz.prog 6 #[.slice c0 len cap] w fun e w' => e = .returned (.bool true) ∧ Ext w w' := by
  have HB := Lib.hid hr.bytes
  clear hr
  by_cases hl : 4096 < len
  · have g := show bigB len = true from decide_eq_true hl
    go_enter Tryz.func6, Tryz.ntmps6
    go_wp2_with (go_at_call 15; refine (big_any _ _ _ _).mono ?_; rintro e w' ⟨rfl, rfl⟩)
    go_ret
    exact ⟨rfl, Ext.refl _⟩
  have g := show bigB len = false from decide_eq_false hl
  go_enter Tryz.func6, Tryz.ntmps6
  go_wp2_with fail
  refine (big_any _ _ _ _).mono ?_
  rintro e w' ⟨rfl, rfl⟩
  go_wp2_with fail
  refine (drawFirstToZone_any c0 len cap _ HB.out (by omega)).mono ?_
  rintro e w1 ⟨l, k, v, ms, q, at_, ct, ts, rfl, h9, hFit, hO, h17, hT, hx⟩
  obtain ⟨ao, mc, rfl, hM⟩ := hO.mks ⟨by unfold maxLen; omega, hFit⟩
  obtain ⟨W, hW⟩ : ∃ W, W = w1.alloc (.cells (cellsC l k (.slice ao ms.length mc)).toArray 30) := ⟨_, rfl⟩
  have hw1 : Ext w1 W := hW ▸ (Ext.refl w1).alloc _
  have CB := Lib.hid (show Box W w1.heap.size (cellsC l k (.slice ao ms.length mc)) by rw [hW]; exact Box.new rfl)
  have HM := Lib.hid (hM.ext hw1)
  have HT := Lib.hid (hT.ext hw1)
  replace hx := Lib.hid (hx.trans hw1)
  have H17 := Lib.hid h17
  clear HB g hl hFit hO hM hw1 hT h9 h17
  obtain ⟨⟨i0, i1, i2, i3, i4, i5, i6, i7, i8⟩, _⟩ := Box.nine CB.out
  go_wp2_with fail
  rw [← hW]
  clear hW
  refine (firstToZone_impl l k ao mc ms q at_ ct ts _ HM.out HT.out).mono ?_
  rintro e w2 ⟨rfl, hy⟩
  replace CB := Lib.hid (CB.out.ext hy); replace HM := Lib.hid (HM.out.ext hy); replace HT := Lib.hid (HT.out.ext hy); replace hx := Lib.hid (hx.out.trans hy)
  clear hy i0 i1 i2 i3 i4 i5 i6 i7 i8
  obtain ⟨⟨i0, i1, i2, i3, i4, i5, i6, i7, i8⟩, _⟩ := Box.nine CB.out
  go_wp2_with fail
  refine (firstToZone_spec l k ao mc ms q at_ ct ts _ HM.out HT.out).mono ?_
  rintro e w3 ⟨rfl, hy⟩
  replace CB := Lib.hid (CB.out.ext hy); replace HM := Lib.hid (HM.out.ext hy); replace HT := Lib.hid (HT.out.ext hy); replace hx := Lib.hid (hx.out.trans hy)
  clear hy i0 i1 i2 i3 i4 i5 i6 i7 i8
  by_cases hz : fzC l k ms ts q = 0
  rotate_left
  · have z1 : (fzC l k ms ts q != 0) = true := by simpa using hz
    go_wp2
    go_ret
    exact ⟨rfl, hx.out⟩
  obtain ⟨i, j, x, xs, rfl, hi, hj, hv, e2, hx2, hall, hle⟩ := fz_ok hz
  rw [hz, hv]
  have LE := Lib.hid hle
  have HZ := Lib.hid (fun b (hb : b < ts.length) w' (hm : Mks w' ao ms) (hf : Fxs w' (tk ts b).a (tk ts b).fs) => show Calls Tryz.prog 36 #[CV l k (.slice ao ms.length mc), .int .i64 i, Tr (TV (tk ts b))] w' (fun e w'' => ∃ v, e = .returned (.tuple #[v, .int .i64 0]) ∧ OwnZ w'' w'.heap.size v (tzL (mk ms i) (tk ts b).fs) ∧ Ext w' w'') from by
    have h := legsInZone_spec l k ao mc ms i (tk ts b).a (tk ts b).c (tk ts b).fs w' hm hf
    unfold LzA at h
    rw [lz_yes (hall b hb).1, (hall b hb).1] at h
    exact h)
  have HZI := Lib.hid (fun w' (hm : Mks w' ao ms) (hf : Fxs w' (tk ts j).a (tk ts j).fs) => show Calls Tryz.prog 23 #[CV l k (.slice ao ms.length mc), .int .i64 i, Tr (TV (tk ts j))] w' (fun e w'' => ∃ v, e = .returned (.tuple #[v, .int .i64 0]) ∧ OwnZ w'' w'.heap.size v (tzL (mk ms i) (tk ts j).fs) ∧ Ext w' w'') from by
    have h := legsInZone_impl l k ao mc ms i (tk ts j).a (tk ts j).c (tk ts j).fs w' hm hf
    unfold LzA at h
    rw [lz_yes (hall j hj).1, (hall j hj).1] at h
    exact h)
  have HLen := Lib.hid (fun b (hb : b < ts.length) => tz_bd (m := mk ms i) (hall b hb).2)
  obtain ⟨bT, oT, rfl, hrow⟩ := HT.out.row (by omega)
  have HR := Lib.hid (fun w' (h : Ext w3 w') b (hb : b < ts.length) => h.cellOf (hrow b hb))
  have HFx := Lib.hid (fun w' (h : Ext w3 w') b (hb : b < ts.length) => (HT.out.2.1 b hb).ext h)
  have HMk := Lib.hid (fun w' (h : Ext w3 w') => HM.out.ext h)
  have HCo := Lib.hid (fun w' (h : Ext w3 w') => CB.out.ext h)
  have E2 := Lib.hid e2
  clear hle hall hz hv hrow HT HM CB e2
  have j0 : (0 : Int) ≤ (j : Int) := by omega
  have j1 : (j : Int) < (ts.length : Int) := by omega
  have u0 : ∀ w', Ext w3 w' → w'.cell? ⟨w1.heap.size, 0, none⟩ = some (.int .i64 l.a) := fun w' h => (HCo.out w' h 0 _ rfl).1
  have u1 : ∀ w', Ext w3 w' → w'.cell? ⟨w1.heap.size, 1, none⟩ = some (.int .i64 l.b) := fun w' h => (HCo.out w' h 1 _ rfl).1
  have u2 : ∀ w', Ext w3 w' → w'.cell? ⟨w1.heap.size, 2, none⟩ = some (.int .i64 l.c) := fun w' h => (HCo.out w' h 2 _ rfl).1
  have u3 : ∀ w', Ext w3 w' → w'.cell? ⟨w1.heap.size, 3, none⟩ = some (.int .i64 l.d) := fun w' h => (HCo.out w' h 3 _ rfl).1
  have u4 : ∀ w', Ext w3 w' → w'.cell? ⟨w1.heap.size, 4, none⟩ = some (.int .i64 k.a) := fun w' h => (HCo.out w' h 4 _ rfl).1
  have u5 : ∀ w', Ext w3 w' → w'.cell? ⟨w1.heap.size, 5, none⟩ = some (.int .i64 k.b) := fun w' h => (HCo.out w' h 5 _ rfl).1
  have u6 : ∀ w', Ext w3 w' → w'.cell? ⟨w1.heap.size, 6, none⟩ = some (.int .i64 k.c) := fun w' h => (HCo.out w' h 6 _ rfl).1
  have u7 : ∀ w', Ext w3 w' → w'.cell? ⟨w1.heap.size, 7, none⟩ = some (.int .i64 k.d) := fun w' h => (HCo.out w' h 7 _ rfl).1
  have u8 : ∀ w', Ext w3 w' → w'.cell? ⟨w1.heap.size, 8, none⟩ = some (.slice ao ms.length mc) := fun w' h => (HCo.out w' h 8 _ rfl).1
  have UU := Lib.hid (And.intro u0 (And.intro u1 (And.intro u2 (And.intro u3 (And.intro u4 (And.intro u5 (And.intro u6 (And.intro u7 u8))))))))
  have v0 : ∀ w', Ext w3 w' → w'.cell? ⟨bT, oT + j, none⟩ = some (TV (tk ts j)) := fun w' h => HR.out w' h j hj
  have hr3 := Ext.refl w3
  go_upto_region 10 with fail
  refine wp_region_held_drew (S := (fun w' => Ext w3 w')) (by kernel_rfl) (by (try dsimp only); first | go_keep | exact (Ext.refl _).drew | exact Res.new2.drew | exact Res.new4.drew | exact ResB.drew (by assumption) | exact ResC.drew (by assumption) | assumption | exact Ext.drew (by assumption) | exact Res.drew (by assumption)) (fun hHeld => ?_)
  (refine Ord.k 0 51 (v := ?_) ?_ ?_; rotate_left; (intro w h; (try dsimp only at h); go_simp; (try with_reducible rfl)); (try simp only [Act.put, Ord.a, Ord.b, Ord.c]))
  (refine Ord.k 1 52 (v := ?_) ?_ ?_; rotate_left; (intro w h; (try dsimp only at h); go_simp; (try with_reducible rfl)); (try simp only [Act.put, Ord.a, Ord.b, Ord.c]))
  (refine Ord.k 2 53 (v := ?_) ?_ ?_; rotate_left; (intro w h; (try dsimp only at h); go_simp; (try with_reducible rfl)); (try simp only [Act.put, Ord.a, Ord.b, Ord.c]))
  (refine Ord.k 3 54 (v := ?_) ?_ ?_; rotate_left; (intro w h; (try dsimp only at h); go_simp; (try with_reducible rfl)); (try simp only [Act.put, Ord.a, Ord.b, Ord.c]))
  (refine Ord.k 4 55 (v := ?_) ?_ ?_; rotate_left; (intro w h; (try dsimp only at h); go_simp; (try with_reducible rfl)); (try simp only [Act.put, Ord.a, Ord.b, Ord.c]))
  (refine Ord.k 5 56 (v := ?_) ?_ ?_; rotate_left; (intro w h; (try dsimp only at h); go_simp; (try with_reducible rfl)); (try simp only [Act.put, Ord.a, Ord.b, Ord.c]))
  (refine wpAnyH_ready (rs := [6]) (by kernel_rfl) (by simp) ?_; refine AllReadyH.cons rfl (fun K hK => ?_) AllReadyH.nil; go_simp; (go_at_call 23; refine (HZI.out _ (HMk.out _ (by assumption)) (HFx.out _ (by assumption) j hj)).mono ?_; rintro e w4 ⟨va, rfl, O1, hy⟩); go_wp2_with fail; (refine hK.out _ _ (by first | assumption | exact Ext.trans (by assumption) hy | exact Res.ext (by assumption) hy | exact ResB.ext (by assumption) hy | exact ResC.ext (by assumption) hy | (go_split_ands; (repeat' apply And.intro) <;> exact Ext.cellOf hy (by assumption))) (fun hHeld => ?_)); clear hK K; (try simp only [Act.put, Ord.a, Ord.b, Ord.c]))
  (refine Ord.k 7 50 (v := ?_) ?_ ?_; rotate_left; (intro w h; (try dsimp only at h); go_simp; (try with_reducible rfl)); (try simp only [Act.put, Ord.a, Ord.b, Ord.c]))
  (refine Ord.k 8 58 (v := ?_) ?_ ?_; rotate_left; (intro w h; (try dsimp only at h); go_simp; (try with_reducible rfl)); (try simp only [Act.put, Ord.a, Ord.b, Ord.c]))
  (refine Ord.k 9 59 (v := ?_) ?_ ?_; rotate_left; (intro w h; (try dsimp only at h); go_simp; (try with_reducible rfl)); (try simp only [Act.put, Ord.a, Ord.b, Ord.c]))
  (refine Ord.k 10 10 (v := ?_) ?_ ?_; rotate_left; (intro w h; (try dsimp only at h); go_simp; (try with_reducible rfl)); (try simp only [Act.put, Ord.a, Ord.b, Ord.c]))
  (refine Ord.k 11 11 (v := ?_) ?_ ?_; rotate_left; (intro w h; (try dsimp only at h); go_simp; (try with_reducible rfl)); (try simp only [Act.put, Ord.a, Ord.b, Ord.c]))
  refine wpAnyH_done (by kernel_rfl) ?_ _
  have h4 : Ext w3 w4 := hHeld
  rw [E2.out] at O1
  obtain ⟨a1, c1, rfl, Z1⟩ := O1.zxs (by have := (HLen.out j hj).1; rw [E2.out] at this; unfold maxLen; omega)
  have Z1 := Lib.hid Z1
  have H4 := Lib.hid h4
  clear hHeld hy O1 u0 u1 u2 u3 u4 u5 u6 u7 u8 v0 hr3 HZI h4
  obtain ⟨u0, u1, u2, u3, u4, u5, u6, u7, u8⟩ := (show (∀ w', Ext w4 w' → w'.cell? ⟨w1.heap.size, 0, none⟩ = some (.int .i64 l.a)) ∧ (∀ w', Ext w4 w' → w'.cell? ⟨w1.heap.size, 1, none⟩ = some (.int .i64 l.b)) ∧ (∀ w', Ext w4 w' → w'.cell? ⟨w1.heap.size, 2, none⟩ = some (.int .i64 l.c)) ∧ (∀ w', Ext w4 w' → w'.cell? ⟨w1.heap.size, 3, none⟩ = some (.int .i64 l.d)) ∧ (∀ w', Ext w4 w' → w'.cell? ⟨w1.heap.size, 4, none⟩ = some (.int .i64 k.a)) ∧ (∀ w', Ext w4 w' → w'.cell? ⟨w1.heap.size, 5, none⟩ = some (.int .i64 k.b)) ∧ (∀ w', Ext w4 w' → w'.cell? ⟨w1.heap.size, 6, none⟩ = some (.int .i64 k.c)) ∧ (∀ w', Ext w4 w' → w'.cell? ⟨w1.heap.size, 7, none⟩ = some (.int .i64 k.d)) ∧ (∀ w', Ext w4 w' → w'.cell? ⟨w1.heap.size, 8, none⟩ = some (.slice ao ms.length mc)) from
    ⟨fun w' h => UU.out.1 w' (H4.out.trans h), fun w' h => UU.out.2.1 w' (H4.out.trans h), fun w' h => UU.out.2.2.1 w' (H4.out.trans h), fun w' h => UU.out.2.2.2.1 w' (H4.out.trans h), fun w' h => UU.out.2.2.2.2.1 w' (H4.out.trans h), fun w' h => UU.out.2.2.2.2.2.1 w' (H4.out.trans h), fun w' h => UU.out.2.2.2.2.2.2.1 w' (H4.out.trans h), fun w' h => UU.out.2.2.2.2.2.2.2.1 w' (H4.out.trans h), fun w' h => UU.out.2.2.2.2.2.2.2.2 w' (H4.out.trans h)⟩)
  have v0 : ∀ w', Ext w4 w' → w'.cell? ⟨bT, oT + j, none⟩ = some (TV (tk ts j)) := fun w' h => HR.out w' (H4.out.trans h) j hj
  have hr4 := Ext.refl w4
  go_upto_region 11 with fail
  refine wp_region_held_drew (S := (fun w' => Ext w4 w')) (by kernel_rfl) (by (try dsimp only); first | go_keep | exact (Ext.refl _).drew | exact Res.new2.drew | exact Res.new4.drew | exact ResB.drew (by assumption) | exact ResC.drew (by assumption) | assumption | exact Ext.drew (by assumption) | exact Res.drew (by assumption)) (fun hHeld => ?_)
  (refine Ord.k 0 61 (v := ?_) ?_ ?_; rotate_left; (intro w h; (try dsimp only at h); go_simp; (try with_reducible rfl)); (try simp only [Act.put, Ord.a, Ord.b, Ord.c]))
  (refine Ord.k 1 62 (v := ?_) ?_ ?_; rotate_left; (intro w h; (try dsimp only at h); go_simp; (try with_reducible rfl)); (try simp only [Act.put, Ord.a, Ord.b, Ord.c]))
  (refine Ord.k 2 63 (v := ?_) ?_ ?_; rotate_left; (intro w h; (try dsimp only at h); go_simp; (try with_reducible rfl)); (try simp only [Act.put, Ord.a, Ord.b, Ord.c]))
  (refine Ord.k 3 64 (v := ?_) ?_ ?_; rotate_left; (intro w h; (try dsimp only at h); go_simp; (try with_reducible rfl)); (try simp only [Act.put, Ord.a, Ord.b, Ord.c]))
  (refine Ord.k 4 65 (v := ?_) ?_ ?_; rotate_left; (intro w h; (try dsimp only at h); go_simp; (try with_reducible rfl)); (try simp only [Act.put, Ord.a, Ord.b, Ord.c]))
  (refine Ord.k 5 66 (v := ?_) ?_ ?_; rotate_left; (intro w h; (try dsimp only at h); go_simp; (try with_reducible rfl)); (try simp only [Act.put, Ord.a, Ord.b, Ord.c]))
  (refine wpAnyH_ready (rs := [6]) (by kernel_rfl) (by simp) ?_; refine AllReadyH.cons rfl (fun K hK => ?_) AllReadyH.nil; go_simp; (go_at_call 36; refine (HZ.out j hj _ (HMk.out _ (H4.out.trans (by assumption))) (HFx.out _ (H4.out.trans (by assumption)) j hj)).mono ?_; rintro e w5 ⟨vb, rfl, O2, hy⟩); go_wp2_with fail; (refine hK.out _ _ (by first | assumption | exact Ext.trans (by assumption) hy | exact Res.ext (by assumption) hy | exact ResB.ext (by assumption) hy | exact ResC.ext (by assumption) hy | (go_split_ands; (repeat' apply And.intro) <;> exact Ext.cellOf hy (by assumption))) (fun hHeld => ?_)); clear hK K; (try simp only [Act.put, Ord.a, Ord.b, Ord.c]))
  (refine Ord.k 7 60 (v := ?_) ?_ ?_; rotate_left; (intro w h; (try dsimp only at h); go_simp; (try with_reducible rfl)); (try simp only [Act.put, Ord.a, Ord.b, Ord.c]))
  (refine Ord.k 8 68 (v := ?_) ?_ ?_; rotate_left; (intro w h; (try dsimp only at h); go_simp; (try with_reducible rfl)); (try simp only [Act.put, Ord.a, Ord.b, Ord.c]))
  (refine Ord.k 9 69 (v := ?_) ?_ ?_; rotate_left; (intro w h; (try dsimp only at h); go_simp; (try with_reducible rfl)); (try simp only [Act.put, Ord.a, Ord.b, Ord.c]))
  (refine Ord.k 10 12 (v := ?_) ?_ ?_; rotate_left; (intro w h; (try dsimp only at h); go_simp; (try with_reducible rfl)); (try simp only [Act.put, Ord.a, Ord.b, Ord.c]))
  (refine Ord.k 11 13 (v := ?_) ?_ ?_; rotate_left; (intro w h; (try dsimp only at h); go_simp; (try with_reducible rfl)); (try simp only [Act.put, Ord.a, Ord.b, Ord.c]))
  refine wpAnyH_done (by kernel_rfl) ?_ _
  have h5 : Ext w4 w5 := hHeld
  rw [E2.out] at O2
  obtain ⟨a2, c2, rfl, Z2⟩ := O2.zxs (by have := (HLen.out j hj).1; rw [E2.out] at this; unfold maxLen; omega)
  have Z2 := Lib.hid Z2
  replace Z1 := Lib.hid (Z1.out.ext h5)
  have H5 := Lib.hid (H4.out.trans h5)
  clear hHeld hy O2 u0 u1 u2 u3 u4 u5 u6 u7 u8 v0 hr4 h5 H4
  go_wp2_with fail
  refine (likeInts_same _ _ _ _ _ _ Z1.out Z2.out).mono ?_
  rintro e w6 ⟨rfl, hy⟩
  replace Z2 := Lib.hid (Z2.out.ext hy)
  have H6 := Lib.hid (H5.out.trans hy)
  clear hy H5 Z1
  have hne : ((xs.length : Int) + 1 == 0) = false := beq_eq_false_iff_ne.2 (by omega)
  have hne2 : ¬ (xs.length : Int) + 1 = 0 := by omega
  obtain ⟨bZ, oZ, rfl, hZc⟩ := Z2.out.row (by simp)
  have z0 := hZc 0 (by simp)
  have z0' : w6.cell? ⟨bZ, oZ, none⟩ = some (.int .i64 x) := by simpa [nz] using z0
  obtain ⟨bF, oF, hFa, hFc⟩ : ∃ b off, (tk ts j).a = some ⟨b, off, none⟩ ∧ ∀ n, n < (tk ts j).fs.length → Trk.At w6 b (off + n * 3) (fx (tk ts j).fs n) := by
    rcases (HFx.out w6 H6.out j hj).2 with h | h
    · rw [h] at hx2; simp at hx2
    · exact h
  have f0 := (hFc x (by omega)).1
  have x0 : (0 : Int) ≤ (x : Int) := by omega
  have x1 : (x : Int) < ((tk ts j).fs.length : Int) := by omega
  have l0 : (0 : Int) < (xs.length : Int) + 1 := by omega
  have v0 : ∀ w', Ext w6 w' → w'.cell? ⟨bT, oT + j, none⟩ = some (.slice (some ⟨bF, oF, none⟩) (tk ts j).fs.length (tk ts j).c) := fun w' h => by rw [HR.out w' (H6.out.trans h) j hj, ← hFa]
  have v1 : ∀ w', Ext w6 w' → w'.cell? ⟨bZ, oZ, none⟩ = some (.int .i64 x) := fun w' h => h.cellOf z0'
  have v2 : ∀ w', Ext w6 w' → w'.cell? ⟨bF, oF + x * 3, none⟩ = some (.int .i64 (fx (tk ts j).fs x).t) := fun w' h => h.cellOf f0
  have hr6 := Ext.refl w6
  clear z0 z0' hZc hFc f0 Z2
  generalize (fx (tk ts j).fs x).t = TB at *
  generalize (tk ts j).fs.length = NF at *
  go_upto_region 14 with fail
  refine wp_region_held_drew (S := (fun w' => Ext w6 w')) (by kernel_rfl) (by (try dsimp only); first | go_keep | exact (Ext.refl _).drew | exact Res.new2.drew | exact Res.new4.drew | exact ResB.drew (by assumption) | exact ResC.drew (by assumption) | assumption | exact Ext.drew (by assumption) | exact Res.drew (by assumption)) (fun hHeld => ?_)
  (refine Ord.k 0 83 (v := ?_) ?_ ?_; rotate_left; (intro w h; (try dsimp only at h); go_simp; (try with_reducible rfl)); (try simp only [Act.put, Ord.a, Ord.b, Ord.c]))
  (refine Ord.k 1 84 (v := ?_) ?_ ?_; rotate_left; (intro w h; (try dsimp only at h); go_simp; (try with_reducible rfl)); (try simp only [Act.put, Ord.a, Ord.b, Ord.c]))
  (refine Ord.k 2 85 (v := ?_) ?_ ?_; rotate_left; (intro w h; (try dsimp only at h); go_simp; (try with_reducible rfl)); (try simp only [Act.put, Ord.a, Ord.b, Ord.c]))
  (refine Ord.k 3 86 (v := ?_) ?_ ?_; rotate_left; (intro w h; (try dsimp only at h); go_simp; (try with_reducible rfl)); (try simp only [Act.put, Ord.a, Ord.b, Ord.c]))
  (refine Ord.k 4 87 (v := ?_) ?_ ?_; rotate_left; (intro w h; (try dsimp only at h); go_simp; (try with_reducible rfl)); (try simp only [Act.put, Ord.a, Ord.b, Ord.c]))
  (refine Ord.k 5 88 (v := ?_) ?_ ?_; rotate_left; (intro w h; (try dsimp only at h); go_simp; (try with_reducible rfl)); (try simp only [Act.put, Ord.a, Ord.b, Ord.c]))
  (refine Ord.k 6 89 (v := ?_) ?_ ?_; rotate_left; (intro w h; (try dsimp only at h); go_simp; (try with_reducible rfl)); (try simp only [Act.put, Ord.a, Ord.b, Ord.c]))
  (refine Ord.k 7 90 (v := ?_) ?_ ?_; rotate_left; (intro w h; (try dsimp only at h); go_simp; (try with_reducible rfl)); (try simp only [Act.put, Ord.a, Ord.b, Ord.c]))
  (refine Ord.k 8 91 (v := ?_) ?_ ?_; rotate_left; (intro w h; (try dsimp only at h); go_simp; (try with_reducible rfl)); (try simp only [Act.put, Ord.a, Ord.b, Ord.c]))
  (refine Ord.k 9 92 (v := ?_) ?_ ?_; rotate_left; (intro w h; (try dsimp only at h); go_simp; (try with_reducible rfl)); (try simp only [Act.put, Ord.a, Ord.b, Ord.c]))
  (refine Ord.k 10 93 (v := ?_) ?_ ?_; rotate_left; (intro w h; (try dsimp only at h); go_simp; (try with_reducible rfl)); (try simp only [Act.put, Ord.a, Ord.b, Ord.c]))
  (refine Ord.k 11 14 (v := ?_) ?_ ?_; rotate_left; (intro w h; (try dsimp only at h); go_simp; (try with_reducible rfl)); (try simp only [Act.put, Ord.a, Ord.b, Ord.c]))
  refine wpAnyH_done (by kernel_rfl) ?_ _
  have h7 := Lib.hid (H6.out.trans hHeld)
  clear hHeld v0 v1 v2 hr6
  go_wp2
  go_loopw [15] (fun i wr => RelZl w3 ts.length i wr) (fun i _ => ts.length - (intOf i).toNat)
  case atStart => exact ⟨0, rfl, Nat.zero_le _, h7.out⟩
  case round =>
    obtain ⟨b, rfl, hb, hxr⟩ := hrel
    have HX := Lib.hid hxr
    clear hxr
    have h17 := H17.out
    by_cases hb1 : b < ts.length
    · have T7 : IntKind.i64.wrap ((b : Int) + 1) = (b : Int) + 1 := IntWalk.i64_in _ (by omega)
      have b0 : (0 : Int) ≤ (b : Int) := by omega
      have b1 : (b : Int) < (ts.length : Int) := by omega
      have hzb := HZ.out b hb1
      have hle := LE.out b hb1
      have hlen := (HLen.out b hb1).1
      obtain ⟨W9, hW9⟩ : ∃ W9, W9 = wr := ⟨_, rfl⟩
      have H9 := Lib.hid (show Ext w3 W9 from hW9 ▸ HX.out)
      rw [← hW9]
      clear hW9
      have u0 : ∀ w', Ext W9 w' → w'.cell? ⟨w1.heap.size, 0, none⟩ = some (.int .i64 l.a) := fun w' h => UU.out.1 w' (H9.out.trans h)
      have u1 : ∀ w', Ext W9 w' → w'.cell? ⟨w1.heap.size, 1, none⟩ = some (.int .i64 l.b) := fun w' h => UU.out.2.1 w' (H9.out.trans h)
      have u2 : ∀ w', Ext W9 w' → w'.cell? ⟨w1.heap.size, 2, none⟩ = some (.int .i64 l.c) := fun w' h => UU.out.2.2.1 w' (H9.out.trans h)
      have u3 : ∀ w', Ext W9 w' → w'.cell? ⟨w1.heap.size, 3, none⟩ = some (.int .i64 l.d) := fun w' h => UU.out.2.2.2.1 w' (H9.out.trans h)
      have u4 : ∀ w', Ext W9 w' → w'.cell? ⟨w1.heap.size, 4, none⟩ = some (.int .i64 k.a) := fun w' h => UU.out.2.2.2.2.1 w' (H9.out.trans h)
      have u5 : ∀ w', Ext W9 w' → w'.cell? ⟨w1.heap.size, 5, none⟩ = some (.int .i64 k.b) := fun w' h => UU.out.2.2.2.2.2.1 w' (H9.out.trans h)
      have u6 : ∀ w', Ext W9 w' → w'.cell? ⟨w1.heap.size, 6, none⟩ = some (.int .i64 k.c) := fun w' h => UU.out.2.2.2.2.2.2.1 w' (H9.out.trans h)
      have u7 : ∀ w', Ext W9 w' → w'.cell? ⟨w1.heap.size, 7, none⟩ = some (.int .i64 k.d) := fun w' h => UU.out.2.2.2.2.2.2.2.1 w' (H9.out.trans h)
      have u8 : ∀ w', Ext W9 w' → w'.cell? ⟨w1.heap.size, 8, none⟩ = some (.slice ao ms.length mc) := fun w' h => UU.out.2.2.2.2.2.2.2.2 w' (H9.out.trans h)
      have v0 : ∀ w', Ext W9 w' → w'.cell? ⟨bT, oT + b, none⟩ = some (TV (tk ts b)) := fun w' h => HR.out w' (H9.out.trans h) b hb1
      have hr9 := Ext.refl W9
      cases hzl : tzL (mk ms i) (tk ts b).fs with
      | nil =>
        rw [hzl] at hzb
        have HZB := Lib.hid hzb
        clear hzb hle hlen hzl
        go_upto_region 18 with fail
        refine wp_region_held_drew (S := (fun w' => Ext W9 w')) (by kernel_rfl) (by (try dsimp only); first | go_keep | exact (Ext.refl _).drew | exact Res.new2.drew | exact Res.new4.drew | exact ResB.drew (by assumption) | exact ResC.drew (by assumption) | assumption | exact Ext.drew (by assumption) | exact Res.drew (by assumption)) (fun hHeld => ?_)
        (refine Ord.k 0 101 (v := ?_) ?_ ?_; rotate_left; (intro w h; (try dsimp only at h); go_simp; (try with_reducible rfl)); (try simp only [Act.put, Ord.a, Ord.b, Ord.c]))
        (refine Ord.k 1 102 (v := ?_) ?_ ?_; rotate_left; (intro w h; (try dsimp only at h); go_simp; (try with_reducible rfl)); (try simp only [Act.put, Ord.a, Ord.b, Ord.c]))
        (refine Ord.k 2 103 (v := ?_) ?_ ?_; rotate_left; (intro w h; (try dsimp only at h); go_simp; (try with_reducible rfl)); (try simp only [Act.put, Ord.a, Ord.b, Ord.c]))
        (refine Ord.k 3 104 (v := ?_) ?_ ?_; rotate_left; (intro w h; (try dsimp only at h); go_simp; (try with_reducible rfl)); (try simp only [Act.put, Ord.a, Ord.b, Ord.c]))
        (refine Ord.k 4 105 (v := ?_) ?_ ?_; rotate_left; (intro w h; (try dsimp only at h); go_simp; (try with_reducible rfl)); (try simp only [Act.put, Ord.a, Ord.b, Ord.c]))
        (refine Ord.k 5 106 (v := ?_) ?_ ?_; rotate_left; (intro w h; (try dsimp only at h); go_simp; (try with_reducible rfl)); (try simp only [Act.put, Ord.a, Ord.b, Ord.c]))
        (refine wpAnyH_ready (rs := [6]) (by kernel_rfl) (by simp) ?_; refine AllReadyH.cons rfl (fun K hK => ?_) AllReadyH.nil; go_simp; (go_at_call 36; refine (HZB.out _ (HMk.out _ (H9.out.trans (by assumption))) (HFx.out _ (H9.out.trans (by assumption)) b hb1)).mono ?_; rintro e w10 ⟨vz, rfl, O9, hy⟩); go_wp2_with fail; (refine hK.out _ _ (by first | assumption | exact Ext.trans (by assumption) hy | exact Res.ext (by assumption) hy | exact ResB.ext (by assumption) hy | exact ResC.ext (by assumption) hy | (go_split_ands; (repeat' apply And.intro) <;> exact Ext.cellOf hy (by assumption))) (fun hHeld => ?_)); clear hK K; (try simp only [Act.put, Ord.a, Ord.b, Ord.c]))
        (refine Ord.k 7 100 (v := ?_) ?_ ?_; rotate_left; (intro w h; (try dsimp only at h); go_simp; (try with_reducible rfl)); (try simp only [Act.put, Ord.a, Ord.b, Ord.c]))
        (refine Ord.k 8 108 (v := ?_) ?_ ?_; rotate_left; (intro w h; (try dsimp only at h); go_simp; (try with_reducible rfl)); (try simp only [Act.put, Ord.a, Ord.b, Ord.c]))
        (refine Ord.k 9 109 (v := ?_) ?_ ?_; rotate_left; (intro w h; (try dsimp only at h); go_simp; (try with_reducible rfl)); (try simp only [Act.put, Ord.a, Ord.b, Ord.c]))
        (refine Ord.k 10 16 (v := ?_) ?_ ?_; rotate_left; (intro w h; (try dsimp only at h); go_simp; (try with_reducible rfl)); (try simp only [Act.put, Ord.a, Ord.b, Ord.c]))
        (refine Ord.k 11 17 (v := ?_) ?_ ?_; rotate_left; (intro w h; (try dsimp only at h); go_simp; (try with_reducible rfl)); (try simp only [Act.put, Ord.a, Ord.b, Ord.c]))
        refine wpAnyH_done (by kernel_rfl) ?_ _
        have h10 : Ext W9 w10 := hHeld
        obtain ⟨a9, c9, rfl, _⟩ := O9.zxs (by unfold maxLen; simp)
        have HH := Lib.hid (H9.out.trans h10)
        clear hHeld hy O9 h10 hr9 u0 u1 u2 u3 u4 u5 u6 u7 u8
        have hr10 := Ext.refl w10
        go_upto_region 19 with fail
        refine wp_region_held_drew (S := (fun w' => Ext w10 w')) (by kernel_rfl) (by (try dsimp only); first | go_keep | exact (Ext.refl _).drew | exact Res.new2.drew | exact Res.new4.drew | exact ResB.drew (by assumption) | exact ResC.drew (by assumption) | assumption | exact Ext.drew (by assumption) | exact Res.drew (by assumption)) (fun hHeld => ?_)
        (refine Ord.k 0 110 (v := ?_) ?_ ?_; rotate_left; (intro w h; (try dsimp only at h); go_simp; (try with_reducible rfl)); (try simp only [Act.put, Ord.a, Ord.b, Ord.c]))
        (refine Ord.k 1 111 (v := ?_) ?_ ?_; rotate_left; (intro w h; (try dsimp only at h); go_simp; (try with_reducible rfl)); (try simp only [Act.put, Ord.a, Ord.b, Ord.c]))
        (refine Ord.k 2 112 (v := ?_) ?_ ?_; rotate_left; (intro w h; (try dsimp only at h); go_simp; (try with_reducible rfl)); (try simp only [Act.put, Ord.a, Ord.b, Ord.c]))
        (first | (refine Ord.s 3 113 ?_ ?_; rfl; (try simp only [Act.put, Ord.a, Ord.b, Ord.c])) | (refine Ord.k 3 113 (v := ?_) ?_ ?_; rotate_left; (intro w h; (try dsimp only at h); go_simp; (try with_reducible rfl)); (try simp only [Act.put, Ord.a, Ord.b, Ord.c])))
        (first | (refine Ord.s 4 114 ?_ ?_; rfl; (try simp only [Act.put, Ord.a, Ord.b, Ord.c])) | (refine Ord.k 4 114 (v := ?_) ?_ ?_; rotate_left; (intro w h; (try dsimp only at h); go_simp; (try with_reducible rfl)); (try simp only [Act.put, Ord.a, Ord.b, Ord.c])))
        (first | (refine Ord.s 5 115 ?_ ?_; rfl; (try simp only [Act.put, Ord.a, Ord.b, Ord.c])) | (refine Ord.k 5 115 (v := ?_) ?_ ?_; rotate_left; (intro w h; (try dsimp only at h); go_simp; (try with_reducible rfl)); (try simp only [Act.put, Ord.a, Ord.b, Ord.c])))
        (first | (refine Ord.s 6 116 ?_ ?_; rfl; (try simp only [Act.put, Ord.a, Ord.b, Ord.c])) | (refine Ord.k 6 116 (v := ?_) ?_ ?_; rotate_left; (intro w h; (try dsimp only at h); go_simp; (try with_reducible rfl)); (try simp only [Act.put, Ord.a, Ord.b, Ord.c])))
        (first | (refine Ord.s 7 117 ?_ ?_; rfl; (try simp only [Act.put, Ord.a, Ord.b, Ord.c])) | (refine Ord.k 7 117 (v := ?_) ?_ ?_; rotate_left; (intro w h; (try dsimp only at h); go_simp; (try with_reducible rfl)); (try simp only [Act.put, Ord.a, Ord.b, Ord.c])))
        (first | (refine Ord.s 8 118 ?_ ?_; rfl; (try simp only [Act.put, Ord.a, Ord.b, Ord.c])) | (refine Ord.k 8 118 (v := ?_) ?_ ?_; rotate_left; (intro w h; (try dsimp only at h); go_simp; (try with_reducible rfl)); (try simp only [Act.put, Ord.a, Ord.b, Ord.c])))
        (first | (refine Ord.s 9 119 ?_ ?_; rfl; (try simp only [Act.put, Ord.a, Ord.b, Ord.c])) | (refine Ord.k 9 119 (v := ?_) ?_ ?_; rotate_left; (intro w h; (try dsimp only at h); go_simp; (try with_reducible rfl)); (try simp only [Act.put, Ord.a, Ord.b, Ord.c])))
        (first | (refine Ord.s 10 120 ?_ ?_; rfl; (try simp only [Act.put, Ord.a, Ord.b, Ord.c])) | (refine Ord.k 10 120 (v := ?_) ?_ ?_; rotate_left; (intro w h; (try dsimp only at h); go_simp; (try with_reducible rfl)); (try simp only [Act.put, Ord.a, Ord.b, Ord.c])))
        (first | (refine Ord.s 11 121 ?_ ?_; rfl; (try simp only [Act.put, Ord.a, Ord.b, Ord.c])) | (refine Ord.k 11 121 (v := ?_) ?_ ?_; rotate_left; (intro w h; (try dsimp only at h); go_simp; (try with_reducible rfl)); (try simp only [Act.put, Ord.a, Ord.b, Ord.c])))
        (first | (refine Ord.s 12 122 ?_ ?_; rfl; (try simp only [Act.put, Ord.a, Ord.b, Ord.c])) | (refine Ord.k 12 122 (v := ?_) ?_ ?_; rotate_left; (intro w h; (try dsimp only at h); go_simp; (try with_reducible rfl)); (try simp only [Act.put, Ord.a, Ord.b, Ord.c])))
        (first | (refine Ord.s 13 123 ?_ ?_; rfl; (try simp only [Act.put, Ord.a, Ord.b, Ord.c])) | (refine Ord.k 13 123 (v := ?_) ?_ ?_; rotate_left; (intro w h; (try dsimp only at h); go_simp; (try with_reducible rfl)); (try simp only [Act.put, Ord.a, Ord.b, Ord.c])))
        (first | (refine Ord.s 14 124 ?_ ?_; rfl; (try simp only [Act.put, Ord.a, Ord.b, Ord.c])) | (refine Ord.k 14 124 (v := ?_) ?_ ?_; rotate_left; (intro w h; (try dsimp only at h); go_simp; (try with_reducible rfl)); (try simp only [Act.put, Ord.a, Ord.b, Ord.c])))
        (first | (refine Ord.s 15 125 ?_ ?_; rfl; (try simp only [Act.put, Ord.a, Ord.b, Ord.c])) | (refine Ord.k 15 125 (v := ?_) ?_ ?_; rotate_left; (intro w h; (try dsimp only at h); go_simp; (try with_reducible rfl)); (try simp only [Act.put, Ord.a, Ord.b, Ord.c])))
        (first | (refine Ord.s 16 126 ?_ ?_; rfl; (try simp only [Act.put, Ord.a, Ord.b, Ord.c])) | (refine Ord.k 16 126 (v := ?_) ?_ ?_; rotate_left; (intro w h; (try dsimp only at h); go_simp; (try with_reducible rfl)); (try simp only [Act.put, Ord.a, Ord.b, Ord.c])))
        (first | (refine Ord.s 17 127 ?_ ?_; rfl; (try simp only [Act.put, Ord.a, Ord.b, Ord.c])) | (refine Ord.k 17 127 (v := ?_) ?_ ?_; rotate_left; (intro w h; (try dsimp only at h); go_simp; (try with_reducible rfl)); (try simp only [Act.put, Ord.a, Ord.b, Ord.c])))
        (first | (refine Ord.s 18 128 ?_ ?_; rfl; (try simp only [Act.put, Ord.a, Ord.b, Ord.c])) | (refine Ord.k 18 128 (v := ?_) ?_ ?_; rotate_left; (intro w h; (try dsimp only at h); go_simp; (try with_reducible rfl)); (try simp only [Act.put, Ord.a, Ord.b, Ord.c])))
        (first | (refine Ord.s 19 129 ?_ ?_; rfl; (try simp only [Act.put, Ord.a, Ord.b, Ord.c])) | (refine Ord.k 19 129 (v := ?_) ?_ ?_; rotate_left; (intro w h; (try dsimp only at h); go_simp; (try with_reducible rfl)); (try simp only [Act.put, Ord.a, Ord.b, Ord.c])))
        (first | (refine Ord.s 20 130 ?_ ?_; rfl; (try simp only [Act.put, Ord.a, Ord.b, Ord.c])) | (refine Ord.k 20 130 (v := ?_) ?_ ?_; rotate_left; (intro w h; (try dsimp only at h); go_simp; (try with_reducible rfl)); (try simp only [Act.put, Ord.a, Ord.b, Ord.c])))
        (refine Ord.k 21 131 (v := ?_) ?_ ?_; rotate_left; (intro w h; (try dsimp only at h); go_simp; (try with_reducible rfl)); (try simp only [Act.put, Ord.a, Ord.b, Ord.c]))
        refine wpAnyH_done (by kernel_rfl) ?_ _
        have H11 := Lib.hid (HH.out.trans hHeld)
        clear hHeld hr10
        go_wp2
        go_roundw
        case rel => exact ⟨b + 1, by go_num, by omega, H11.out⟩
        case measure => simp [intOf]; omega
      | cons y ys =>
        obtain ⟨y, rfl, hy2⟩ := tz_head hzl
        have hge := hle y ys hzl
        rw [hzl] at hzb hlen
        have HZB := Lib.hid hzb
        clear hzb hle hzl
        go_upto_region 18 with fail
        refine wp_region_held_drew (S := (fun w' => Ext W9 w')) (by kernel_rfl) (by (try dsimp only); first | go_keep | exact (Ext.refl _).drew | exact Res.new2.drew | exact Res.new4.drew | exact ResB.drew (by assumption) | exact ResC.drew (by assumption) | assumption | exact Ext.drew (by assumption) | exact Res.drew (by assumption)) (fun hHeld => ?_)
        (refine Ord.k 0 101 (v := ?_) ?_ ?_; rotate_left; (intro w h; (try dsimp only at h); go_simp; (try with_reducible rfl)); (try simp only [Act.put, Ord.a, Ord.b, Ord.c]))
        (refine Ord.k 1 102 (v := ?_) ?_ ?_; rotate_left; (intro w h; (try dsimp only at h); go_simp; (try with_reducible rfl)); (try simp only [Act.put, Ord.a, Ord.b, Ord.c]))
        (refine Ord.k 2 103 (v := ?_) ?_ ?_; rotate_left; (intro w h; (try dsimp only at h); go_simp; (try with_reducible rfl)); (try simp only [Act.put, Ord.a, Ord.b, Ord.c]))
        (refine Ord.k 3 104 (v := ?_) ?_ ?_; rotate_left; (intro w h; (try dsimp only at h); go_simp; (try with_reducible rfl)); (try simp only [Act.put, Ord.a, Ord.b, Ord.c]))
        (refine Ord.k 4 105 (v := ?_) ?_ ?_; rotate_left; (intro w h; (try dsimp only at h); go_simp; (try with_reducible rfl)); (try simp only [Act.put, Ord.a, Ord.b, Ord.c]))
        (refine Ord.k 5 106 (v := ?_) ?_ ?_; rotate_left; (intro w h; (try dsimp only at h); go_simp; (try with_reducible rfl)); (try simp only [Act.put, Ord.a, Ord.b, Ord.c]))
        (refine wpAnyH_ready (rs := [6]) (by kernel_rfl) (by simp) ?_; refine AllReadyH.cons rfl (fun K hK => ?_) AllReadyH.nil; go_simp; (go_at_call 36; refine (HZB.out _ (HMk.out _ (H9.out.trans (by assumption))) (HFx.out _ (H9.out.trans (by assumption)) b hb1)).mono ?_; rintro e w10 ⟨vz, rfl, O9, hy⟩); go_wp2_with fail; (refine hK.out _ _ (by first | assumption | exact Ext.trans (by assumption) hy | exact Res.ext (by assumption) hy | exact ResB.ext (by assumption) hy | exact ResC.ext (by assumption) hy | (go_split_ands; (repeat' apply And.intro) <;> exact Ext.cellOf hy (by assumption))) (fun hHeld => ?_)); clear hK K; (try simp only [Act.put, Ord.a, Ord.b, Ord.c]))
        (refine Ord.k 7 100 (v := ?_) ?_ ?_; rotate_left; (intro w h; (try dsimp only at h); go_simp; (try with_reducible rfl)); (try simp only [Act.put, Ord.a, Ord.b, Ord.c]))
        (refine Ord.k 8 108 (v := ?_) ?_ ?_; rotate_left; (intro w h; (try dsimp only at h); go_simp; (try with_reducible rfl)); (try simp only [Act.put, Ord.a, Ord.b, Ord.c]))
        (refine Ord.k 9 109 (v := ?_) ?_ ?_; rotate_left; (intro w h; (try dsimp only at h); go_simp; (try with_reducible rfl)); (try simp only [Act.put, Ord.a, Ord.b, Ord.c]))
        (refine Ord.k 10 16 (v := ?_) ?_ ?_; rotate_left; (intro w h; (try dsimp only at h); go_simp; (try with_reducible rfl)); (try simp only [Act.put, Ord.a, Ord.b, Ord.c]))
        (refine Ord.k 11 17 (v := ?_) ?_ ?_; rotate_left; (intro w h; (try dsimp only at h); go_simp; (try with_reducible rfl)); (try simp only [Act.put, Ord.a, Ord.b, Ord.c]))
        refine wpAnyH_done (by kernel_rfl) ?_ _
        have h10 : Ext W9 w10 := hHeld
        obtain ⟨a9, c9, rfl, Z9⟩ := O9.zxs (by unfold maxLen; simp at hlen ⊢; omega)
        have HH := Lib.hid (H9.out.trans h10)
        obtain ⟨bY, oY, rfl, hYc⟩ := Z9.row (by simp)
        have y0' : w10.cell? ⟨bY, oY, none⟩ = some (.int .i64 y) := by simpa [nz] using hYc 0 (by simp)
        obtain ⟨bG, oG, hGa, hGc⟩ : ∃ b' off, (tk ts b).a = some ⟨b', off, none⟩ ∧ ∀ n, n < (tk ts b).fs.length → Trk.At w10 b' (off + n * 3) (fx (tk ts b).fs n) := by
          rcases (HFx.out w10 HH.out b hb1).2 with h | h
          · rw [h] at hy2; simp at hy2
          · exact h
        have g0 := (hGc y (by omega)).1
        have y0 : (0 : Int) ≤ (y : Int) := by omega
        have y1 : (y : Int) < ((tk ts b).fs.length : Int) := by omega
        have l1 : (0 : Int) < (ys.length : Int) + 1 := by omega
        have l2 : decide ((0 : Int) < (ys.length : Int) + 1) = true := decide_eq_true l1
        replace v0 : ∀ w', Ext w10 w' → w'.cell? ⟨bT, oT + b, none⟩ = some (.slice (some ⟨bG, oG, none⟩) (tk ts b).fs.length (tk ts b).c) := fun w' h => by rw [HR.out w' (HH.out.trans h) b hb1, ← hGa]
        have v1 : ∀ w', Ext w10 w' → w'.cell? ⟨bY, oY, none⟩ = some (.int .i64 y) := fun w' h => h.cellOf y0'
        have v2 : ∀ w', Ext w10 w' → w'.cell? ⟨bG, oG + y * 3, none⟩ = some (.int .i64 (fx (tk ts b).fs y).t) := fun w' h => h.cellOf g0
        have e9 : beT (tk ts b).fs (y : Int) = (fx (tk ts b).fs y).t := by simp [beT]
        rw [e9] at hge
        clear hHeld hy O9 Z9 h10 hr9 u0 u1 u2 u3 u4 u5 u6 u7 u8 y0' hYc hGc g0 e9 hlen
        generalize (fx (tk ts b).fs y).t = TY at *
        generalize (tk ts b).fs.length = NY at *
        have e10 : decide (TY < TB) = false := decide_eq_false (by omega)
        have e11 : ¬ TY < TB := by omega
        have hr10 := Ext.refl w10
        go_upto_region 19 with fail
        refine wp_region_held_drew (S := (fun w' => Ext w10 w')) (by kernel_rfl) (by (try dsimp only); first | go_keep | exact (Ext.refl _).drew | exact Res.new2.drew | exact Res.new4.drew | exact ResB.drew (by assumption) | exact ResC.drew (by assumption) | assumption | exact Ext.drew (by assumption) | exact Res.drew (by assumption)) (fun hHeld => ?_)
        (refine Ord.k 0 110 (v := ?_) ?_ ?_; rotate_left; (intro w h; (try dsimp only at h); go_simp; (try with_reducible rfl)); (try simp only [Act.put, Ord.a, Ord.b, Ord.c]))
        (refine Ord.k 1 111 (v := ?_) ?_ ?_; rotate_left; (intro w h; (try dsimp only at h); go_simp; (try with_reducible rfl)); (try simp only [Act.put, Ord.a, Ord.b, Ord.c]))
        (refine Ord.k 2 112 (v := ?_) ?_ ?_; rotate_left; (intro w h; (try dsimp only at h); go_simp; (try with_reducible rfl)); (try simp only [Act.put, Ord.a, Ord.b, Ord.c]))
        (first | (refine Ord.s 3 113 ?_ ?_; rfl; (try simp only [Act.put, Ord.a, Ord.b, Ord.c])) | (refine Ord.k 3 113 (v := ?_) ?_ ?_; rotate_left; (intro w h; (try dsimp only at h); go_simp; (try with_reducible rfl)); (try simp only [Act.put, Ord.a, Ord.b, Ord.c])))
        (first | (refine Ord.s 4 114 ?_ ?_; rfl; (try simp only [Act.put, Ord.a, Ord.b, Ord.c])) | (refine Ord.k 4 114 (v := ?_) ?_ ?_; rotate_left; (intro w h; (try dsimp only at h); go_simp; (try with_reducible rfl)); (try simp only [Act.put, Ord.a, Ord.b, Ord.c])))
        (first | (refine Ord.s 5 115 ?_ ?_; rfl; (try simp only [Act.put, Ord.a, Ord.b, Ord.c])) | (refine Ord.k 5 115 (v := ?_) ?_ ?_; rotate_left; (intro w h; (try dsimp only at h); go_simp; (try with_reducible rfl)); (try simp only [Act.put, Ord.a, Ord.b, Ord.c])))
        (first | (refine Ord.s 6 116 ?_ ?_; rfl; (try simp only [Act.put, Ord.a, Ord.b, Ord.c])) | (refine Ord.k 6 116 (v := ?_) ?_ ?_; rotate_left; (intro w h; (try dsimp only at h); go_simp; (try with_reducible rfl)); (try simp only [Act.put, Ord.a, Ord.b, Ord.c])))
        (first | (refine Ord.s 7 117 ?_ ?_; rfl; (try simp only [Act.put, Ord.a, Ord.b, Ord.c])) | (refine Ord.k 7 117 (v := ?_) ?_ ?_; rotate_left; (intro w h; (try dsimp only at h); go_simp; (try with_reducible rfl)); (try simp only [Act.put, Ord.a, Ord.b, Ord.c])))
        (first | (refine Ord.s 8 118 ?_ ?_; rfl; (try simp only [Act.put, Ord.a, Ord.b, Ord.c])) | (refine Ord.k 8 118 (v := ?_) ?_ ?_; rotate_left; (intro w h; (try dsimp only at h); go_simp; (try with_reducible rfl)); (try simp only [Act.put, Ord.a, Ord.b, Ord.c])))
        (first | (refine Ord.s 9 119 ?_ ?_; rfl; (try simp only [Act.put, Ord.a, Ord.b, Ord.c])) | (refine Ord.k 9 119 (v := ?_) ?_ ?_; rotate_left; (intro w h; (try dsimp only at h); go_simp; (try with_reducible rfl)); (try simp only [Act.put, Ord.a, Ord.b, Ord.c])))
        (first | (refine Ord.s 10 120 ?_ ?_; rfl; (try simp only [Act.put, Ord.a, Ord.b, Ord.c])) | (refine Ord.k 10 120 (v := ?_) ?_ ?_; rotate_left; (intro w h; (try dsimp only at h); go_simp; (try with_reducible rfl)); (try simp only [Act.put, Ord.a, Ord.b, Ord.c])))
        (first | (refine Ord.s 11 121 ?_ ?_; rfl; (try simp only [Act.put, Ord.a, Ord.b, Ord.c])) | (refine Ord.k 11 121 (v := ?_) ?_ ?_; rotate_left; (intro w h; (try dsimp only at h); go_simp; (try with_reducible rfl)); (try simp only [Act.put, Ord.a, Ord.b, Ord.c])))
        (first | (refine Ord.s 12 122 ?_ ?_; rfl; (try simp only [Act.put, Ord.a, Ord.b, Ord.c])) | (refine Ord.k 12 122 (v := ?_) ?_ ?_; rotate_left; (intro w h; (try dsimp only at h); go_simp; (try with_reducible rfl)); (try simp only [Act.put, Ord.a, Ord.b, Ord.c])))
        (first | (refine Ord.s 13 123 ?_ ?_; rfl; (try simp only [Act.put, Ord.a, Ord.b, Ord.c])) | (refine Ord.k 13 123 (v := ?_) ?_ ?_; rotate_left; (intro w h; (try dsimp only at h); go_simp; (try with_reducible rfl)); (try simp only [Act.put, Ord.a, Ord.b, Ord.c])))
        (first | (refine Ord.s 14 124 ?_ ?_; rfl; (try simp only [Act.put, Ord.a, Ord.b, Ord.c])) | (refine Ord.k 14 124 (v := ?_) ?_ ?_; rotate_left; (intro w h; (try dsimp only at h); go_simp; (try with_reducible rfl)); (try simp only [Act.put, Ord.a, Ord.b, Ord.c])))
        (first | (refine Ord.s 15 125 ?_ ?_; rfl; (try simp only [Act.put, Ord.a, Ord.b, Ord.c])) | (refine Ord.k 15 125 (v := ?_) ?_ ?_; rotate_left; (intro w h; (try dsimp only at h); go_simp; (try with_reducible rfl)); (try simp only [Act.put, Ord.a, Ord.b, Ord.c])))
        (first | (refine Ord.s 16 126 ?_ ?_; rfl; (try simp only [Act.put, Ord.a, Ord.b, Ord.c])) | (refine Ord.k 16 126 (v := ?_) ?_ ?_; rotate_left; (intro w h; (try dsimp only at h); go_simp; (try with_reducible rfl)); (try simp only [Act.put, Ord.a, Ord.b, Ord.c])))
        (first | (refine Ord.s 17 127 ?_ ?_; rfl; (try simp only [Act.put, Ord.a, Ord.b, Ord.c])) | (refine Ord.k 17 127 (v := ?_) ?_ ?_; rotate_left; (intro w h; (try dsimp only at h); go_simp; (try with_reducible rfl)); (try simp only [Act.put, Ord.a, Ord.b, Ord.c])))
        (first | (refine Ord.s 18 128 ?_ ?_; rfl; (try simp only [Act.put, Ord.a, Ord.b, Ord.c])) | (refine Ord.k 18 128 (v := ?_) ?_ ?_; rotate_left; (intro w h; (try dsimp only at h); go_simp; (try with_reducible rfl)); (try simp only [Act.put, Ord.a, Ord.b, Ord.c])))
        (first | (refine Ord.s 19 129 ?_ ?_; rfl; (try simp only [Act.put, Ord.a, Ord.b, Ord.c])) | (refine Ord.k 19 129 (v := ?_) ?_ ?_; rotate_left; (intro w h; (try dsimp only at h); go_simp; (try with_reducible rfl)); (try simp only [Act.put, Ord.a, Ord.b, Ord.c])))
        (first | (refine Ord.s 20 130 ?_ ?_; rfl; (try simp only [Act.put, Ord.a, Ord.b, Ord.c])) | (refine Ord.k 20 130 (v := ?_) ?_ ?_; rotate_left; (intro w h; (try dsimp only at h); go_simp; (try with_reducible rfl)); (try simp only [Act.put, Ord.a, Ord.b, Ord.c])))
        (refine Ord.k 21 131 (v := ?_) ?_ ?_; rotate_left; (intro w h; (try dsimp only at h); go_simp; (try with_reducible rfl)); (try simp only [Act.put, Ord.a, Ord.b, Ord.c]))
        refine wpAnyH_done (by kernel_rfl) ?_ _
        have H11 := Lib.hid (HH.out.trans hHeld)
        clear hHeld hr10
        go_wp2
        go_roundw
        case rel => exact ⟨b + 1, by go_num, by omega, H11.out⟩
        case measure => simp [intOf]; omega
    · obtain rfl : b = ts.length := by omega
      go_wp2
      go_ret
      exact ⟨rfl, hx.out.trans HX.out⟩
end Go.Proofs.YtplbahdomjeekaaGreat.fnFirstToZone
