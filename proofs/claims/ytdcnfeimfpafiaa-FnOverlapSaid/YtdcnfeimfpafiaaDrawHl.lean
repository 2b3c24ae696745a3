/- The draws of chapter 9's laws: DrawOverlapOf, DrawGapBehind, DrawHullsNear. -/
import Derived.Test.YtdcnfeimfpafiaaDrawHt
namespace Go.Proofs.Ytdcnfeimfpafiaa.Draw
open Go.ChangeShapes Go.WideShapes Go.ChangeAt Go.RowKit
open Go.Proofs.Ytdcnfeimfpafiaa.Num Go.Proofs.Ytdcnfeimfpafiaa.Kit Go.Proofs.Ytdcnfeimfpafiaa.Pts Go.Proofs.Ytdcnfeimfpafiaa.Hul
set_option linter.unusedVariables false
set_option linter.unusedSimpArgs false

/-- Two hulls come out; two hulls and a number. -/
def TwoHu (w : World) (e : Ending) (w' : World) : Prop := ∃ a b c d n p q u v m : Int, e = .returned (.tuple #[Hv a b c d n, Hv p q u v m]) ∧ Ext w w'
def TwoHuN (w : World) (e : Ending) (w' : World) : Prop := ∃ a b c d n p q u v m r : Int, e = .returned (.tuple #[Hv a b c d n, Hv p q u v m, .int .i64 r]) ∧ Ext w w'

set_option maxHeartbeats 1000000 in
theorem drawOverlapOf_any (a : Option Addr) (len cap : Nat) (w : World) (hb : Bytes w a len) (hl : len ≤ 100000) : Calls Try.prog 15 #[.slice a len cap] w (TwoHu w) := by
  have HB := Lib.hid hb
  clear hb
  obtain ⟨W0, hW0⟩ : ∃ W0, W0 = (w.alloc (.cells #[.int .i64 0, .int .i64 0, .int .i64 0, .int .i64 0, .int .i64 0] 27)).alloc (.cells #[.int .i64 0, .int .i64 0, .int .i64 0, .int .i64 0, .int .i64 0] 27) := ⟨_, rfl⟩
  have hX : Ext w W0 := hW0 ▸ ((Ext.refl w).alloc _).alloc _
  have Y0 : ∀ B, w.heap.size + 1 < B → BX w B [(w.heap.size, H5 0 0 0 0 0), (w.heap.size + 1, H5 0 0 0 0 0)] W0 := fun B hB => hW0 ▸ ((BX.nil w B).add (H5 0 0 0 0 0) 27 rfl (by omega)).add (H5 0 0 0 0 0) 27 (by simp) (by omega)
  have zW : W0.heap.size = w.heap.size + 1 + 1 := by rw [hW0]; simp
  go_enter Try.func15, Try.ntmps15
  go_wp2_with fail
  rw [← hW0]
  clear hW0
  refine (from_any a len cap _ (HB.out.ext hX) hl).mono ?_
  rintro e w1 ⟨B, rfl, hB, hs1, hy⟩
  have X1 := (Y0 B (by omega)).ext hy
  clear hy hX Y0
  go_wp2_with fail
  refine (drawTwo_any B _ hs1).mono ?_
  rintro e w2 ⟨x, b, c, d, m, p, q, u, v, l, rfl, hs2, hc⟩
  have X2 := X1.step hc
  clear hc hs1 X1
  obtain ⟨⟨d0, d1, d2, d3, d4⟩, f0, f1, f2, f3, f4⟩ := (X2.box 0 _ rfl).five
  obtain ⟨⟨e0, e1, e2, e3, e4⟩, g0, g1, g2, g3, g4⟩ := (X2.box 1 _ rfl).five
  have X3 := put5 (put5 X2 0 rfl (.int .i64 x) (.int .i64 b) (.int .i64 c) (.int .i64 d) (.int .i64 m)) 1 rfl (.int .i64 p) (.int .i64 q) (.int .i64 u) (.int .i64 v) (.int .i64 l)
  have XE := X3.to (Ext.refl w) (by omega)
  go_wp2
  obtain ⟨⟨h0, h1, h2, h3, h4⟩, _⟩ := (X3.box 0 _ rfl).five
  obtain ⟨⟨k0, k1, k2, k3, k4⟩, _⟩ := (X3.box 1 _ rfl).five
  exact bodyPost_ret (v := .tuple #[Hv x b c d m, Hv p q u v l]) (by simp [results, Try.results15, go_sem, h0, h1, h2, h3, h4, k0, k1, k2, k3, k4]) rfl ⟨x, b, c, d, m, p, q, u, v, l, rfl, XE⟩

set_option maxHeartbeats 1000000 in
theorem drawGapBehind_any (a : Option Addr) (len cap : Nat) (w : World) (hb : Bytes w a len) (hl : len ≤ 100000) : Calls Try.prog 19 #[.slice a len cap] w (TwoHu w) := by
  have HB := Lib.hid hb
  clear hb
  obtain ⟨W0, hW0⟩ : ∃ W0, W0 = (w.alloc (.cells #[.int .i64 0, .int .i64 0, .int .i64 0, .int .i64 0, .int .i64 0] 27)).alloc (.cells #[.int .i64 0, .int .i64 0, .int .i64 0, .int .i64 0, .int .i64 0] 27) := ⟨_, rfl⟩
  have hX : Ext w W0 := hW0 ▸ ((Ext.refl w).alloc _).alloc _
  have Y0 : ∀ B, w.heap.size + 1 < B → BX w B [(w.heap.size, H5 0 0 0 0 0), (w.heap.size + 1, H5 0 0 0 0 0)] W0 := fun B hB => hW0 ▸ ((BX.nil w B).add (H5 0 0 0 0 0) 27 rfl (by omega)).add (H5 0 0 0 0 0) 27 (by simp) (by omega)
  have zW : W0.heap.size = w.heap.size + 1 + 1 := by rw [hW0]; simp
  go_enter Try.func19, Try.ntmps19
  go_wp2_with fail
  rw [← hW0]
  clear hW0
  refine (from_any a len cap _ (HB.out.ext hX) hl).mono ?_
  rintro e w1 ⟨B, rfl, hB, hs1, hy⟩
  have X1 := (Y0 B (by omega)).ext hy
  clear hy hX Y0
  go_wp2_with fail
  refine (drawTwo_any B _ hs1).mono ?_
  rintro e w2 ⟨x, b, c, d, m, p, q, u, v, l, rfl, hs2, hc⟩
  have X2 := X1.step hc
  clear hc hs1 X1
  obtain ⟨⟨d0, d1, d2, d3, d4⟩, f0, f1, f2, f3, f4⟩ := (X2.box 0 _ rfl).five
  obtain ⟨⟨e0, e1, e2, e3, e4⟩, g0, g1, g2, g3, g4⟩ := (X2.box 1 _ rfl).five
  have X3 := put5 (put5 X2 0 rfl (.int .i64 x) (.int .i64 b) (.int .i64 c) (.int .i64 d) (.int .i64 m)) 1 rfl (.int .i64 p) (.int .i64 q) (.int .i64 u) (.int .i64 v) (.int .i64 l)
  have XE := X3.to (Ext.refl w) (by omega)
  go_wp2
  obtain ⟨⟨h0, h1, h2, h3, h4⟩, _⟩ := (X3.box 0 _ rfl).five
  obtain ⟨⟨k0, k1, k2, k3, k4⟩, _⟩ := (X3.box 1 _ rfl).five
  exact bodyPost_ret (v := .tuple #[Hv x b c d m, Hv p q u v l]) (by simp [results, Try.results19, go_sem, h0, h1, h2, h3, h4, k0, k1, k2, k3, k4]) rfl ⟨x, b, c, d, m, p, q, u, v, l, rfl, XE⟩

set_option maxRecDepth 100000 in
set_option maxHeartbeats 4000000 in
theorem drawHullsNear_any (a : Option Addr) (len cap : Nat) (w : World) (hb : Bytes w a len) (hl : len ≤ 100000) : Calls Try.prog 24 #[.slice a len cap] w (TwoHuN w) := by
  have HB := Lib.hid hb
  clear hb
  obtain ⟨W0, hW0⟩ : ∃ W0, W0 = (w.alloc (.cells #[.int .i64 0, .int .i64 0, .int .i64 0, .int .i64 0, .int .i64 0] 27)).alloc (.cells #[.int .i64 0, .int .i64 0, .int .i64 0, .int .i64 0, .int .i64 0] 27) := ⟨_, rfl⟩
  have hX : Ext w W0 := hW0 ▸ ((Ext.refl w).alloc _).alloc _
  have Y0 : ∀ B, w.heap.size + 1 < B → BX w B [(w.heap.size, H5 0 0 0 0 0), (w.heap.size + 1, H5 0 0 0 0 0)] W0 := fun B hB => hW0 ▸ ((BX.nil w B).add (H5 0 0 0 0 0) 27 rfl (by omega)).add (H5 0 0 0 0 0) 27 (by simp) (by omega)
  have zW : W0.heap.size = w.heap.size + 1 + 1 := by rw [hW0]; simp
  go_enter Try.func24, Try.ntmps24
  go_wp2_with fail
  rw [← hW0]
  clear hW0
  refine (from_any a len cap _ (HB.out.ext hX) hl).mono ?_
  rintro e w1 ⟨B, rfl, hB, hs1, hy⟩
  have X1 := (Y0 B (by omega)).ext hy
  clear hy hX Y0
  go_wp2_with fail
  refine (drawTwo_any B _ hs1).mono ?_
  rintro e w2 ⟨x, b, c, d, m, p, q, u, v, l, rfl, hs2, hc⟩
  have X2 := X1.step hc
  clear hc hs1 X1
  have hB2 := hs2.lt
  obtain ⟨W3, hW3⟩ : ∃ W3, W3 = (w2.alloc (.cells #[.int .i64 x, .int .i64 b, .int .i64 c, .int .i64 d, .int .i64 m] 27)).alloc (.cells #[.int .i64 p, .int .i64 q, .int .i64 u, .int .i64 v, .int .i64 l] 27) := ⟨_, rfl⟩
  have X3 : BX w B (L4H w.heap.size w2.heap.size x b c d m p q u v l) W3 := hW3 ▸ (X2.add (H5 x b c d m) 27 rfl (by omega)).add (H5 p q u v l) 27 (by simp) (by omega)
  have hs3 : Src W3 B := hW3 ▸ (hs2.alloc _).alloc _
  clear hs2 X2
  go_upto_region 3 with fail
  rw [← hW3]
  clear hW3
  generalize hk : w2.heap.size = k at *
  clear hk
  go_wp2_with fail
  refine (next_pos B _ _ hs3 (by omega)).mono ?_
  rintro e w4 ⟨r1, rfl, r10, r11, hs4, hc⟩
  have X4 := X3.step hc
  clear hc hs3 X3
  go_wp2_with fail
  refine (next_pos B _ _ hs4 (by omega)).mono ?_
  rintro e w5 ⟨r2, rfl, r20, r21, hs5, hc⟩
  have X5 := X4.step hc
  clear hc hs4 X4
  by_cases h0 : r2 = 0
  · have t0 : (r2 == 0) = true := beq_iff_eq.2 h0
    clear h0
    go_wp2_with fail
    refine (next_pos B _ _ (hs5.alloc _) (by omega)).mono ?_
    rintro e w6 ⟨r3, rfl, r30, r31, hs6, hc⟩
    obtain ⟨r, hv, -⟩ := pick3 hc hs5 r30 r31
    have X6 := (X5.ext ((Ext.refl w5).alloc _)).step hc
    clear hc X5 hs5
    have f20 : ∀ z, HT w B w.heap.size k (H5 x b c d m) (H5 p q u v l) z → z.cell? ⟨k, 0, none⟩ = some (.int .i64 x) := fun z h => h.cell2 0 rfl
    have f21 : ∀ z, HT w B w.heap.size k (H5 x b c d m) (H5 p q u v l) z → z.cell? ⟨k, 1, none⟩ = some (.int .i64 b) := fun z h => h.cell2 1 rfl
    have f22 : ∀ z, HT w B w.heap.size k (H5 x b c d m) (H5 p q u v l) z → z.cell? ⟨k, 2, none⟩ = some (.int .i64 c) := fun z h => h.cell2 2 rfl
    have f23 : ∀ z, HT w B w.heap.size k (H5 x b c d m) (H5 p q u v l) z → z.cell? ⟨k, 3, none⟩ = some (.int .i64 d) := fun z h => h.cell2 3 rfl
    have f24 : ∀ z, HT w B w.heap.size k (H5 x b c d m) (H5 p q u v l) z → z.cell? ⟨k, 4, none⟩ = some (.int .i64 m) := fun z h => h.cell2 4 rfl
    have f30 : ∀ z, HT w B w.heap.size k (H5 x b c d m) (H5 p q u v l) z → z.cell? ⟨k + 1, 0, none⟩ = some (.int .i64 p) := fun z h => h.cell3 0 rfl
    have f31 : ∀ z, HT w B w.heap.size k (H5 x b c d m) (H5 p q u v l) z → z.cell? ⟨k + 1, 1, none⟩ = some (.int .i64 q) := fun z h => h.cell3 1 rfl
    have f32 : ∀ z, HT w B w.heap.size k (H5 x b c d m) (H5 p q u v l) z → z.cell? ⟨k + 1, 2, none⟩ = some (.int .i64 u) := fun z h => h.cell3 2 rfl
    have f33 : ∀ z, HT w B w.heap.size k (H5 x b c d m) (H5 p q u v l) z → z.cell? ⟨k + 1, 3, none⟩ = some (.int .i64 v) := fun z h => h.cell3 3 rfl
    have f34 : ∀ z, HT w B w.heap.size k (H5 x b c d m) (H5 p q u v l) z → z.cell? ⟨k + 1, 4, none⟩ = some (.int .i64 l) := fun z h => h.cell3 4 rfl
    go_upto_region 6 with fail
    have XD := X6.drew
    refine wp_region_held_drew (S := HT w B w.heap.size k (H5 x b c d m) (H5 p q u v l)) (by kernel_rfl) (by (try dsimp only); exact HT.mk XD) (fun hHeld => ?_)
    generalize w6.drew = wd at *
    refine Ord.K 0 26 ?_; refine Ord.K 1 27 ?_; refine Ord.K 2 28 ?_
    obtain ⟨⟨r0, r1, r2, r3, r4⟩, s0, s1, s2, s3, s4⟩ := (XD.box 0 _ rfl).five
    refine wpAnyH_ready (rs := [3]) (by kernel_rfl) (by simp) ?_
    refine AllReadyH.cons rfl (fun K hK => ?_) AllReadyH.nil
    go_simp
    replace XD := put5 XD 0 rfl (.int .i64 x) (.int .i64 b) (.int .i64 c) (.int .i64 d) (.int .i64 m)
    refine hK.out _ _ (HT.mk XD) (fun hHeld => ?_)
    clear hK K r0 r1 r2 r3 r4 s0 s1 s2 s3 s4
    (try simp only [Act.put, Ord.a, Ord.b, Ord.c])
    obtain ⟨⟨r0, r1, r2, r3, r4⟩, s0, s1, s2, s3, s4⟩ := (XD.box 1 _ rfl).five
    refine wpAnyH_ready (rs := [4]) (by kernel_rfl) (by simp) ?_
    refine AllReadyH.cons rfl (fun K hK => ?_) AllReadyH.nil
    go_simp
    replace XD := put5 XD 1 rfl (.int .i64 p) (.int .i64 q) (.int .i64 u) (.int .i64 v) (.int .i64 l)
    refine hK.out _ _ (HT.mk XD) (fun hHeld => ?_)
    clear hK K r0 r1 r2 r3 r4 s0 s1 s2 s3 s4
    (try simp only [Act.put, Ord.a, Ord.b, Ord.c])
    refine Ord.K 5 4 ?_
    refine wpAnyH_done (by kernel_rfl) ?_ _
    have XE := XD.to (Ext.refl w) (by omega)
    go_wp2
    obtain ⟨⟨h0, h1, h2, h3, h4⟩, _⟩ := (XD.box 0 _ rfl).five
    obtain ⟨⟨k0, k1, k2, k3, k4⟩, _⟩ := (XD.box 1 _ rfl).five
    exact bodyPost_ret (v := .tuple #[Hv x b c d m, Hv p q u v l, .int .i64 r]) (by simp [results, Try.results24, go_sem, h0, h1, h2, h3, h4, k0, k1, k2, k3, k4]) rfl ⟨x, b, c, d, m, p, q, u, v, l, r, rfl, XE⟩
  · have t0 : (r2 == 0) = false := beq_eq_false_iff_ne.2 h0
    clear h0
    have f20 : ∀ z, HT w B w.heap.size k (H5 x b c d m) (H5 p q u v l) z → z.cell? ⟨k, 0, none⟩ = some (.int .i64 x) := fun z h => h.cell2 0 rfl
    have f21 : ∀ z, HT w B w.heap.size k (H5 x b c d m) (H5 p q u v l) z → z.cell? ⟨k, 1, none⟩ = some (.int .i64 b) := fun z h => h.cell2 1 rfl
    have f22 : ∀ z, HT w B w.heap.size k (H5 x b c d m) (H5 p q u v l) z → z.cell? ⟨k, 2, none⟩ = some (.int .i64 c) := fun z h => h.cell2 2 rfl
    have f23 : ∀ z, HT w B w.heap.size k (H5 x b c d m) (H5 p q u v l) z → z.cell? ⟨k, 3, none⟩ = some (.int .i64 d) := fun z h => h.cell2 3 rfl
    have f24 : ∀ z, HT w B w.heap.size k (H5 x b c d m) (H5 p q u v l) z → z.cell? ⟨k, 4, none⟩ = some (.int .i64 m) := fun z h => h.cell2 4 rfl
    have f30 : ∀ z, HT w B w.heap.size k (H5 x b c d m) (H5 p q u v l) z → z.cell? ⟨k + 1, 0, none⟩ = some (.int .i64 p) := fun z h => h.cell3 0 rfl
    have f31 : ∀ z, HT w B w.heap.size k (H5 x b c d m) (H5 p q u v l) z → z.cell? ⟨k + 1, 1, none⟩ = some (.int .i64 q) := fun z h => h.cell3 1 rfl
    have f32 : ∀ z, HT w B w.heap.size k (H5 x b c d m) (H5 p q u v l) z → z.cell? ⟨k + 1, 2, none⟩ = some (.int .i64 u) := fun z h => h.cell3 2 rfl
    have f33 : ∀ z, HT w B w.heap.size k (H5 x b c d m) (H5 p q u v l) z → z.cell? ⟨k + 1, 3, none⟩ = some (.int .i64 v) := fun z h => h.cell3 3 rfl
    have f34 : ∀ z, HT w B w.heap.size k (H5 x b c d m) (H5 p q u v l) z → z.cell? ⟨k + 1, 4, none⟩ = some (.int .i64 l) := fun z h => h.cell3 4 rfl
    go_upto_region 6 with fail
    have XD := X5.drew
    refine wp_region_held_drew (S := HT w B w.heap.size k (H5 x b c d m) (H5 p q u v l)) (by kernel_rfl) (by (try dsimp only); exact HT.mk XD) (fun hHeld => ?_)
    generalize w5.drew = wd at *
    refine Ord.K 0 26 ?_; refine Ord.K 1 27 ?_; refine Ord.K 2 28 ?_
    obtain ⟨⟨r0, r1, r2, r3, r4⟩, s0, s1, s2, s3, s4⟩ := (XD.box 0 _ rfl).five
    refine wpAnyH_ready (rs := [3]) (by kernel_rfl) (by simp) ?_
    refine AllReadyH.cons rfl (fun K hK => ?_) AllReadyH.nil
    go_simp
    replace XD := put5 XD 0 rfl (.int .i64 x) (.int .i64 b) (.int .i64 c) (.int .i64 d) (.int .i64 m)
    refine hK.out _ _ (HT.mk XD) (fun hHeld => ?_)
    clear hK K r0 r1 r2 r3 r4 s0 s1 s2 s3 s4
    (try simp only [Act.put, Ord.a, Ord.b, Ord.c])
    obtain ⟨⟨r0, r1, r2, r3, r4⟩, s0, s1, s2, s3, s4⟩ := (XD.box 1 _ rfl).five
    refine wpAnyH_ready (rs := [4]) (by kernel_rfl) (by simp) ?_
    refine AllReadyH.cons rfl (fun K hK => ?_) AllReadyH.nil
    go_simp
    replace XD := put5 XD 1 rfl (.int .i64 p) (.int .i64 q) (.int .i64 u) (.int .i64 v) (.int .i64 l)
    refine hK.out _ _ (HT.mk XD) (fun hHeld => ?_)
    clear hK K r0 r1 r2 r3 r4 s0 s1 s2 s3 s4
    (try simp only [Act.put, Ord.a, Ord.b, Ord.c])
    refine Ord.K 5 4 ?_
    refine wpAnyH_done (by kernel_rfl) ?_ _
    have XE := XD.to (Ext.refl w) (by omega)
    go_wp2
    obtain ⟨⟨h0, h1, h2, h3, h4⟩, _⟩ := (XD.box 0 _ rfl).five
    obtain ⟨⟨k0, k1, k2, k3, k4⟩, _⟩ := (XD.box 1 _ rfl).five
    exact bodyPost_ret (v := .tuple #[Hv x b c d m, Hv p q u v l, .int .i64 r1]) (by simp [results, Try.results24, go_sem, h0, h1, h2, h3, h4, k0, k1, k2, k3, k4]) rfl ⟨x, b, c, d, m, p, q, u, v, l, r1, rfl, XE⟩

end Go.Proofs.Ytdcnfeimfpafiaa.Draw
