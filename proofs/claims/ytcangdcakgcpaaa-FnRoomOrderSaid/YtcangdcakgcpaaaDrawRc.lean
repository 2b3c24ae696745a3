/- The draws of rooms (chapter 11): DrawInsideBoat, DrawRoomBetween (tools/mkdrawrc.py). -/
import Derived.Test.YtcangdcakgcpaaaDrawRb
namespace Go.Proofs.Ytcangdcakgcpaaa.Draw
open Go.ChangeShapes Go.WideShapes Go.ChangeAt Go.RowKit
open Go.Proofs.Ytcangdcakgcpaaa.Num Go.Proofs.Ytcangdcakgcpaaa.Kit Go.Proofs.Ytcangdcakgcpaaa.Pts Go.Proofs.Ytcangdcakgcpaaa.Hul
open Go.Proofs.Ytcangdcakgcpaaa.Crs (MkV)
set_option linter.unusedVariables false
set_option linter.unusedSimpArgs false

set_option maxHeartbeats 2000000 in
theorem drawInsideBoat_any (a0 : Option Addr) (len cap : Nat) (w : World) (hb : Bytes w a0 len) (hl : len ≤ 100000) : Calls Try.prog 23 #[.slice a0 len cap] w (MHu w) := by
  have HB := Lib.hid hb
  clear hb
  obtain ⟨W0, hW0⟩ : ∃ W0, W0 = ((w.alloc (.cells #[.string ⟨#[]⟩, .int .i64 0, .int .i64 0, .int .i64 0, .int .i64 0] 45)).alloc (.cells #[.int .i64 0, .int .i64 0, .int .i64 0, .int .i64 0, .int .i64 0] 39)).alloc (.cells #[.int .i64 0, .int .i64 0, .int .i64 0, .int .i64 0, .int .i64 0] 39) := ⟨_, rfl⟩
  have hX : Ext w W0 := hW0 ▸ (((Ext.refl w).alloc _).alloc _).alloc _
  have Y0 : ∀ B, w.heap.size + 1 + 1 < B → BX w B [(w.heap.size, zM), (w.heap.size + 1, H5 0 0 0 0 0), (w.heap.size + 1 + 1, H5 0 0 0 0 0)] W0 := fun B hB => hW0 ▸ (((BX.nil w B).add zM 45 rfl (by omega)).add (H5 0 0 0 0 0) 39 (by simp) (by omega)).add (H5 0 0 0 0 0) 39 (by simp) (by omega)
  have zW : W0.heap.size = w.heap.size + 1 + 1 + 1 := by rw [hW0]; simp
  go_enter Try.func23, Try.ntmps23
  go_wp2_with fail
  rw [← hW0]
  clear hW0
  refine (from_any a0 len cap _ (HB.out.ext hX) hl).mono ?_
  rintro e w1 ⟨B, rfl, hB, hs1, hy⟩
  have X1 := (Y0 B (by omega)).ext hy
  clear hy hX Y0
  go_wp2_with fail
  refine (drawHm_any B _ hs1).mono ?_
  rintro e w2 ⟨N, X, Y, S, Z, a, b, c, d, l, p, q, u, v, k, rfl, hs2, hc⟩
  have X2 := X1.step hc
  clear hc hs1 X1
  obtain ⟨⟨m0, m1, m2, m3, m4⟩, n0, n1, n2, n3, n4⟩ := (X2.box 0 _ rfl).five
  obtain ⟨⟨d0, d1, d2, d3, d4⟩, f0, f1, f2, f3, f4⟩ := (X2.box 1 _ rfl).five
  obtain ⟨⟨e0, e1, e2, e3, e4⟩, g0, g1, g2, g3, g4⟩ := (X2.box 2 _ rfl).five
  have X3 := put5 (put5 (put5 X2 0 rfl (.string N) (.int .i64 X) (.int .i64 Y) (.int .i64 S) (.int .i64 Z)) 1 rfl (.int .i64 a) (.int .i64 b) (.int .i64 c) (.int .i64 d) (.int .i64 l)) 2 rfl (.int .i64 p) (.int .i64 q) (.int .i64 u) (.int .i64 v) (.int .i64 k)
  have XE := X3.to (Ext.refl w) (by omega)
  go_wp2
  obtain ⟨⟨i0, i1, i2, i3, i4⟩, _⟩ := (X3.box 0 _ rfl).five
  obtain ⟨⟨h0, h1, h2, h3, h4⟩, _⟩ := (X3.box 1 _ rfl).five
  obtain ⟨⟨k0, k1, k2, k3, k4⟩, _⟩ := (X3.box 2 _ rfl).five
  exact bodyPost_ret (v := .tuple #[MkV N X Y S Z, Hv a b c d l, Hv p q u v k]) (by simp [results, Try.results23, go_sem, i0, i1, i2, i3, i4, h0, h1, h2, h3, h4, k0, k1, k2, k3, k4]) rfl ⟨N, X, Y, S, Z, a, b, c, d, l, p, q, u, v, k, rfl, XE⟩

/-- While the four results are stored. -/
def F9 (w : World) (B n g k : Nat) (D M A C : List Value) (x : World) : Prop := ∃ v0 v1 x0 x1 x2 x3 x4 y0 y1 y2 y3 y4 z0 z1 z2 z3 z4, BX w B [(n, [v0, v1]), (n + 1, [x0, x1, x2, x3, x4]), (n + 1 + 1, [y0, y1, y2, y3, y4]), (n + 1 + 1 + 1, [z0, z1, z2, z3, z4]), (g, D), (k, M), (k + 1, A), (k + 1 + 1, C)] x
theorem F9.mk {w : World} {B n g k : Nat} {D M A C : List Value} {x : World} {v0 v1 x0 x1 x2 x3 x4 y0 y1 y2 y3 y4 z0 z1 z2 z3 z4 : Value} (h : BX w B [(n, [v0, v1]), (n + 1, [x0, x1, x2, x3, x4]), (n + 1 + 1, [y0, y1, y2, y3, y4]), (n + 1 + 1 + 1, [z0, z1, z2, z3, z4]), (g, D), (k, M), (k + 1, A), (k + 1 + 1, C)] x) : F9 w B n g k D M A C x := ⟨_, _, _, _, _, _, _, _, _, _, _, _, _, _, _, _, _, h⟩
theorem F9.cell4 {w : World} {B n g k : Nat} {D M A C : List Value} {x : World} (h : F9 w B n g k D M A C x) (j : Nat) {v : Value} (hj : D[j]? = some v) : x.cell? ⟨g, j, none⟩ = some v := by
  obtain ⟨_, _, _, _, _, _, _, _, _, _, _, _, _, _, _, _, _, h⟩ := h
  exact h.cell 4 j rfl hj
theorem F9.cell5 {w : World} {B n g k : Nat} {D M A C : List Value} {x : World} (h : F9 w B n g k D M A C x) (j : Nat) {v : Value} (hj : M[j]? = some v) : x.cell? ⟨k, j, none⟩ = some v := by
  obtain ⟨_, _, _, _, _, _, _, _, _, _, _, _, _, _, _, _, _, h⟩ := h
  exact h.cell 5 j rfl hj
theorem F9.cell6 {w : World} {B n g k : Nat} {D M A C : List Value} {x : World} (h : F9 w B n g k D M A C x) (j : Nat) {v : Value} (hj : A[j]? = some v) : x.cell? ⟨k + 1, j, none⟩ = some v := by
  obtain ⟨_, _, _, _, _, _, _, _, _, _, _, _, _, _, _, _, _, h⟩ := h
  exact h.cell 6 j rfl hj
theorem F9.cell7 {w : World} {B n g k : Nat} {D M A C : List Value} {x : World} (h : F9 w B n g k D M A C x) (j : Nat) {v : Value} (hj : C[j]? = some v) : x.cell? ⟨k + 1 + 1, j, none⟩ = some v := by
  obtain ⟨_, _, _, _, _, _, _, _, _, _, _, _, _, _, _, _, _, h⟩ := h
  exact h.cell 7 j rfl hj

set_option maxRecDepth 100000 in
set_option maxHeartbeats 4000000 in
theorem drawRoomBetween_any (a0 : Option Addr) (len cap : Nat) (w : World) (hb : Bytes w a0 len) (hl : len ≤ 100000) : Calls Try.prog 19 #[.slice a0 len cap] w (WMHu w) := by
  have HB := Lib.hid hb
  clear hb
  obtain ⟨W0, hW0⟩ : ∃ W0, W0 = (((w.alloc (.cells #[.int .i64 0, .int .i64 0] 25)).alloc (.cells #[.string ⟨#[]⟩, .int .i64 0, .int .i64 0, .int .i64 0, .int .i64 0] 45)).alloc (.cells #[.int .i64 0, .int .i64 0, .int .i64 0, .int .i64 0, .int .i64 0] 39)).alloc (.cells #[.int .i64 0, .int .i64 0, .int .i64 0, .int .i64 0, .int .i64 0] 39) := ⟨_, rfl⟩
  have hX : Ext w W0 := hW0 ▸ ((((Ext.refl w).alloc _).alloc _).alloc _).alloc _
  have Y0 : ∀ B, w.heap.size + 1 + 1 + 1 < B → BX w B [(w.heap.size, [.int .i64 0, .int .i64 0]), (w.heap.size + 1, zM), (w.heap.size + 1 + 1, H5 0 0 0 0 0), (w.heap.size + 1 + 1 + 1, H5 0 0 0 0 0)] W0 := fun B hB => hW0 ▸ ((((BX.nil w B).add [.int .i64 0, .int .i64 0] 25 rfl (by omega)).add zM 45 (by simp) (by omega)).add (H5 0 0 0 0 0) 39 (by simp) (by omega)).add (H5 0 0 0 0 0) 39 (by simp) (by omega)
  have zW : W0.heap.size = w.heap.size + 1 + 1 + 1 + 1 := by rw [hW0]; simp
  go_enter Try.func19, Try.ntmps19
  go_wp2_with fail
  rw [← hW0]
  clear hW0
  refine (from_any a0 len cap _ (HB.out.ext hX) hl).mono ?_
  rintro e w1 ⟨B, rfl, hB, hs1, hy⟩
  have X1 := (Y0 B (by omega)).ext hy
  have hz1 := hy.size
  clear hy hX Y0
  go_wp2_with fail
  refine (drawWindAny_any B _ hs1).mono ?_
  rintro e w2 ⟨x, y, rfl, hs2, hc⟩
  have X2 := X1.step hc
  have hz2 := hc.size
  clear hc hs1 X1
  have hlt2 := hs2.lt
  obtain ⟨W3, hW3⟩ : ∃ W3, W3 = w2.alloc (.cells #[.int .i64 x, .int .i64 y] 25) := ⟨_, rfl⟩
  have X3 : BX w B [(w.heap.size, [.int .i64 0, .int .i64 0]), (w.heap.size + 1, zM), (w.heap.size + 1 + 1, H5 0 0 0 0 0), (w.heap.size + 1 + 1 + 1, H5 0 0 0 0 0), (w2.heap.size, [.int .i64 x, .int .i64 y])] W3 := hW3 ▸ X2.add [.int .i64 x, .int .i64 y] 25 rfl (by omega)
  have hs3 : Src W3 B := hW3 ▸ hs2.alloc _
  have hz3 : w2.heap.size < W3.heap.size := by rw [hW3]; simp
  clear hs2 X2
  go_upto_region 3 with fail
  rw [← hW3]
  clear hW3
  generalize hg : w2.heap.size = g at *
  clear hg
  go_wp2_with fail
  refine (drawHm_any B _ hs3).mono ?_
  rintro e w4 ⟨N, X, Y, S, Z, a, b, c, d, l, p, q, u, v, k0, rfl, hs4, hc⟩
  have X4 := X3.step hc
  have hz4 := hc.size
  clear hc hs3 X3
  have hlt4 := hs4.lt
  obtain ⟨W5, hW5⟩ : ∃ W5, W5 = ((w4.alloc (.cells #[.string N, .int .i64 X, .int .i64 Y, .int .i64 S, .int .i64 Z] 45)).alloc (.cells #[.int .i64 a, .int .i64 b, .int .i64 c, .int .i64 d, .int .i64 l] 39)).alloc (.cells #[.int .i64 p, .int .i64 q, .int .i64 u, .int .i64 v, .int .i64 k0] 39) := ⟨_, rfl⟩
  have X5 : BX w B [(w.heap.size, [.int .i64 0, .int .i64 0]), (w.heap.size + 1, zM), (w.heap.size + 1 + 1, H5 0 0 0 0 0), (w.heap.size + 1 + 1 + 1, H5 0 0 0 0 0), (g, [.int .i64 x, .int .i64 y]), (w4.heap.size, M5c N X Y S Z), (w4.heap.size + 1, H5 a b c d l), (w4.heap.size + 1 + 1, H5 p q u v k0)] W5 := hW5 ▸ ((X4.add (M5c N X Y S Z) 45 rfl (by omega)).add (H5 a b c d l) 39 (by simp) (by omega)).add (H5 p q u v k0) 39 (by simp) (by omega)
  clear hs4 X4
  go_upto_region 4 with fail
  rw [← hW5]
  clear hW5
  generalize hk : w4.heap.size = k at *
  clear hk
  have f40 : ∀ z, F9 w B w.heap.size g k [.int .i64 x, .int .i64 y] (M5c N X Y S Z) (H5 a b c d l) (H5 p q u v k0) z → z.cell? ⟨g, 0, none⟩ = some (.int .i64 x) := fun z h => h.cell4 0 rfl
  have f41 : ∀ z, F9 w B w.heap.size g k [.int .i64 x, .int .i64 y] (M5c N X Y S Z) (H5 a b c d l) (H5 p q u v k0) z → z.cell? ⟨g, 1, none⟩ = some (.int .i64 y) := fun z h => h.cell4 1 rfl
  have f50 : ∀ z, F9 w B w.heap.size g k [.int .i64 x, .int .i64 y] (M5c N X Y S Z) (H5 a b c d l) (H5 p q u v k0) z → z.cell? ⟨k, 0, none⟩ = some (.string N) := fun z h => h.cell5 0 rfl
  have f51 : ∀ z, F9 w B w.heap.size g k [.int .i64 x, .int .i64 y] (M5c N X Y S Z) (H5 a b c d l) (H5 p q u v k0) z → z.cell? ⟨k, 1, none⟩ = some (.int .i64 X) := fun z h => h.cell5 1 rfl
  have f52 : ∀ z, F9 w B w.heap.size g k [.int .i64 x, .int .i64 y] (M5c N X Y S Z) (H5 a b c d l) (H5 p q u v k0) z → z.cell? ⟨k, 2, none⟩ = some (.int .i64 Y) := fun z h => h.cell5 2 rfl
  have f53 : ∀ z, F9 w B w.heap.size g k [.int .i64 x, .int .i64 y] (M5c N X Y S Z) (H5 a b c d l) (H5 p q u v k0) z → z.cell? ⟨k, 3, none⟩ = some (.int .i64 S) := fun z h => h.cell5 3 rfl
  have f54 : ∀ z, F9 w B w.heap.size g k [.int .i64 x, .int .i64 y] (M5c N X Y S Z) (H5 a b c d l) (H5 p q u v k0) z → z.cell? ⟨k, 4, none⟩ = some (.int .i64 Z) := fun z h => h.cell5 4 rfl
  have f60 : ∀ z, F9 w B w.heap.size g k [.int .i64 x, .int .i64 y] (M5c N X Y S Z) (H5 a b c d l) (H5 p q u v k0) z → z.cell? ⟨k + 1, 0, none⟩ = some (.int .i64 a) := fun z h => h.cell6 0 rfl
  have f61 : ∀ z, F9 w B w.heap.size g k [.int .i64 x, .int .i64 y] (M5c N X Y S Z) (H5 a b c d l) (H5 p q u v k0) z → z.cell? ⟨k + 1, 1, none⟩ = some (.int .i64 b) := fun z h => h.cell6 1 rfl
  have f62 : ∀ z, F9 w B w.heap.size g k [.int .i64 x, .int .i64 y] (M5c N X Y S Z) (H5 a b c d l) (H5 p q u v k0) z → z.cell? ⟨k + 1, 2, none⟩ = some (.int .i64 c) := fun z h => h.cell6 2 rfl
  have f63 : ∀ z, F9 w B w.heap.size g k [.int .i64 x, .int .i64 y] (M5c N X Y S Z) (H5 a b c d l) (H5 p q u v k0) z → z.cell? ⟨k + 1, 3, none⟩ = some (.int .i64 d) := fun z h => h.cell6 3 rfl
  have f64 : ∀ z, F9 w B w.heap.size g k [.int .i64 x, .int .i64 y] (M5c N X Y S Z) (H5 a b c d l) (H5 p q u v k0) z → z.cell? ⟨k + 1, 4, none⟩ = some (.int .i64 l) := fun z h => h.cell6 4 rfl
  have f70 : ∀ z, F9 w B w.heap.size g k [.int .i64 x, .int .i64 y] (M5c N X Y S Z) (H5 a b c d l) (H5 p q u v k0) z → z.cell? ⟨k + 1 + 1, 0, none⟩ = some (.int .i64 p) := fun z h => h.cell7 0 rfl
  have f71 : ∀ z, F9 w B w.heap.size g k [.int .i64 x, .int .i64 y] (M5c N X Y S Z) (H5 a b c d l) (H5 p q u v k0) z → z.cell? ⟨k + 1 + 1, 1, none⟩ = some (.int .i64 q) := fun z h => h.cell7 1 rfl
  have f72 : ∀ z, F9 w B w.heap.size g k [.int .i64 x, .int .i64 y] (M5c N X Y S Z) (H5 a b c d l) (H5 p q u v k0) z → z.cell? ⟨k + 1 + 1, 2, none⟩ = some (.int .i64 u) := fun z h => h.cell7 2 rfl
  have f73 : ∀ z, F9 w B w.heap.size g k [.int .i64 x, .int .i64 y] (M5c N X Y S Z) (H5 a b c d l) (H5 p q u v k0) z → z.cell? ⟨k + 1 + 1, 3, none⟩ = some (.int .i64 v) := fun z h => h.cell7 3 rfl
  have f74 : ∀ z, F9 w B w.heap.size g k [.int .i64 x, .int .i64 y] (M5c N X Y S Z) (H5 a b c d l) (H5 p q u v k0) z → z.cell? ⟨k + 1 + 1, 4, none⟩ = some (.int .i64 k0) := fun z h => h.cell7 4 rfl
  have XD := X5.drew
  refine wp_region_held_drew (S := F9 w B w.heap.size g k [.int .i64 x, .int .i64 y] (M5c N X Y S Z) (H5 a b c d l) (H5 p q u v k0)) (by kernel_rfl) (by (try dsimp only); exact F9.mk XD) (fun hHeld => ?_)
  generalize W5.drew = wd at *
  refine Ord.K 0 21 ?_; refine Ord.K 1 22 ?_; refine Ord.K 2 23 ?_; refine Ord.K 3 24 ?_
  obtain ⟨⟨r0, r1⟩, s0, s1⟩ := (XD.box 0 _ rfl).two
  refine wpAnyH_ready (rs := [4]) (by kernel_rfl) (by simp) ?_
  refine AllReadyH.cons rfl (fun K hK => ?_) AllReadyH.nil
  go_simp
  replace XD := (XD.put 0 0 rfl (by simp) (.int .i64 x)).put 0 1 rfl (by simp) (.int .i64 y)
  refine hK.out _ _ (F9.mk XD) (fun hHeld => ?_)
  clear hK K r0 r1 s0 s1
  (try simp only [Act.put, Ord.a, Ord.b, Ord.c])
  obtain ⟨⟨r0, r1, r2, r3, r4⟩, s0, s1, s2, s3, s4⟩ := (XD.box 1 _ rfl).five
  refine wpAnyH_ready (rs := [5]) (by kernel_rfl) (by simp) ?_
  refine AllReadyH.cons rfl (fun K hK => ?_) AllReadyH.nil
  go_simp
  replace XD := put5 XD 1 rfl (.string N) (.int .i64 X) (.int .i64 Y) (.int .i64 S) (.int .i64 Z)
  refine hK.out _ _ (F9.mk XD) (fun hHeld => ?_)
  clear hK K r0 r1 r2 r3 r4 s0 s1 s2 s3 s4
  (try simp only [Act.put, Ord.a, Ord.b, Ord.c])
  obtain ⟨⟨r0, r1, r2, r3, r4⟩, s0, s1, s2, s3, s4⟩ := (XD.box 2 _ rfl).five
  refine wpAnyH_ready (rs := [6]) (by kernel_rfl) (by simp) ?_
  refine AllReadyH.cons rfl (fun K hK => ?_) AllReadyH.nil
  go_simp
  replace XD := put5 XD 2 rfl (.int .i64 a) (.int .i64 b) (.int .i64 c) (.int .i64 d) (.int .i64 l)
  refine hK.out _ _ (F9.mk XD) (fun hHeld => ?_)
  clear hK K r0 r1 r2 r3 r4 s0 s1 s2 s3 s4
  (try simp only [Act.put, Ord.a, Ord.b, Ord.c])
  obtain ⟨⟨r0, r1, r2, r3, r4⟩, s0, s1, s2, s3, s4⟩ := (XD.box 3 _ rfl).five
  refine wpAnyH_ready (rs := [7]) (by kernel_rfl) (by simp) ?_
  refine AllReadyH.cons rfl (fun K hK => ?_) AllReadyH.nil
  go_simp
  replace XD := put5 XD 3 rfl (.int .i64 p) (.int .i64 q) (.int .i64 u) (.int .i64 v) (.int .i64 k0)
  refine hK.out _ _ (F9.mk XD) (fun hHeld => ?_)
  clear hK K r0 r1 r2 r3 r4 s0 s1 s2 s3 s4
  (try simp only [Act.put, Ord.a, Ord.b, Ord.c])
  refine wpAnyH_done (by kernel_rfl) ?_ _
  have XE := XD.to (Ext.refl w) (by omega)
  go_wp2
  obtain ⟨⟨j0, j1⟩, _⟩ := (XD.box 0 _ rfl).two
  obtain ⟨⟨i0, i1, i2, i3, i4⟩, _⟩ := (XD.box 1 _ rfl).five
  obtain ⟨⟨h0, h1, h2, h3, h4⟩, _⟩ := (XD.box 2 _ rfl).five
  obtain ⟨⟨k1, k2, k3, k4, k5⟩, _⟩ := (XD.box 3 _ rfl).five
  exact bodyPost_ret (v := .tuple #[Pt x y, MkV N X Y S Z, Hv a b c d l, Hv p q u v k0]) (by simp [results, Try.results19, go_sem, j0, j1, i0, i1, i2, i3, i4, h0, h1, h2, h3, h4, k1, k2, k3, k4, k5]) rfl ⟨x, y, N, X, Y, S, Z, a, b, c, d, l, p, q, u, v, k0, rfl, XE⟩

end Go.Proofs.Ytcangdcakgcpaaa.Draw
