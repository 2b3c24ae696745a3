/- The draw of two hulls (chapter 9). -/
import Derived.Test.YtcangdcakgcpaaaDrawHu
namespace Go.Proofs.Ytcangdcakgcpaaa.Draw
open Go.ChangeShapes Go.WideShapes Go.ChangeAt Go.RowKit
open Go.Proofs.Ytcangdcakgcpaaa.Num Go.Proofs.Ytcangdcakgcpaaa.Kit Go.Proofs.Ytcangdcakgcpaaa.Pts Go.Proofs.Ytcangdcakgcpaaa.Hul
set_option linter.unusedVariables false
set_option linter.unusedSimpArgs false

theorem ht_done {B n m : Nat} {w F : World} {tmps : Array Value} {a b c d k p q u v l : Int} (R : Box F n (H5 a b c d k)) (T : Box F m (H5 p q u v l)) (h2 : tmps[2]? = some (.pointer (some ⟨n, 0, none⟩))) (h3 : tmps[3]? = some (.pointer (some ⟨m, 0, none⟩))) (hs : Src F B) (hC : Chg B w F) :
    bodyPost Try.prog Try.f75 (AHu2 B w) Exit.ret ⟨tmps, []⟩ F := by
  obtain ⟨⟨g0, g1, g2, g3, g4⟩, _⟩ := R.five
  obtain ⟨⟨f0, f1, f2, f3, f4⟩, _⟩ := T.five
  exact bodyPost_ret (v := .tuple #[Hv a b c d k, Hv p q u v l]) (by simp [results, Try.results75, go_sem, h2, h3, g0, g1, g2, g3, g4, f0, f1, f2, f3, f4]) rfl ⟨a, b, c, d, k, p, q, u, v, l, rfl, hs, hC⟩

/-- The four boxes of the draw. -/
abbrev L4H (n k : Nat) (a b c d m p q u v l : Int) : List (Nat × List Value) := [(n, H5 0 0 0 0 0), (n + 1, H5 0 0 0 0 0), (k, H5 a b c d m), (k + 1, H5 p q u v l)]

/-- While the two results are stored. -/
def HT (w : World) (B n k : Nat) (A C : List Value) (x : World) : Prop := ∃ x0 x1 x2 x3 x4 y0 y1 y2 y3 y4, BX w B [(n, [x0, x1, x2, x3, x4]), (n + 1, [y0, y1, y2, y3, y4]), (k, A), (k + 1, C)] x
theorem HT.mk {w : World} {B n k : Nat} {A C : List Value} {x : World} {x0 x1 x2 x3 x4 y0 y1 y2 y3 y4 : Value} (h : BX w B [(n, [x0, x1, x2, x3, x4]), (n + 1, [y0, y1, y2, y3, y4]), (k, A), (k + 1, C)] x) : HT w B n k A C x := ⟨_, _, _, _, _, _, _, _, _, _, h⟩
theorem HT.cell2 {w : World} {B n k : Nat} {A C : List Value} {x : World} (h : HT w B n k A C x) (j : Nat) {v : Value} (hj : A[j]? = some v) : x.cell? ⟨k, j, none⟩ = some v := by
  obtain ⟨_, _, _, _, _, _, _, _, _, _, h⟩ := h
  exact h.cell 2 j rfl hj
theorem HT.cell3 {w : World} {B n k : Nat} {A C : List Value} {x : World} (h : HT w B n k A C x) (j : Nat) {v : Value} (hj : C[j]? = some v) : x.cell? ⟨k + 1, j, none⟩ = some v := by
  obtain ⟨_, _, _, _, _, _, _, _, _, _, h⟩ := h
  exact h.cell 3 j rfl hj

set_option maxRecDepth 100000 in
set_option maxHeartbeats 4000000 in
theorem drawTwo_any (B : Nat) (w : World) (hs : Src w B) : Calls Try.prog 75 #[.pointer (some ⟨B, 0, none⟩)] w (AHu2 B w) := by
  have hB := hs.lt
  obtain ⟨W0, hW0⟩ : ∃ W0, W0 = (w.alloc (.cells #[.int .i64 0, .int .i64 0, .int .i64 0, .int .i64 0, .int .i64 0] 39)).alloc (.cells #[.int .i64 0, .int .i64 0, .int .i64 0, .int .i64 0, .int .i64 0] 39) := ⟨_, rfl⟩
  have X0 : BX w B [(w.heap.size, H5 0 0 0 0 0), (w.heap.size + 1, H5 0 0 0 0 0)] W0 := hW0 ▸ ((BX.nil w B).add (H5 0 0 0 0 0) 39 rfl (by omega)).add (H5 0 0 0 0 0) 39 (by simp) (by omega)
  have hs0 : Src W0 B := hW0 ▸ (hs.alloc _).alloc _
  clear hs
  go_enter Try.func75, Try.ntmps75
  go_wp2_with fail
  rw [← hW0]
  clear hW0
  refine (drawHull_any B _ hs0).mono ?_
  rintro e w1 ⟨a, b, c, d, m, rfl, hs1, hc⟩
  have X1 := X0.step hc
  clear hc X0 hs0
  go_wp2_with fail
  refine (drawHull_any B _ hs1).mono ?_
  rintro e w2 ⟨p, q, u, v, l, rfl, hs2, hc⟩
  have X2 := X1.step hc
  clear hc X1 hs1
  have hB2 := hs2.lt
  obtain ⟨W3, hW3⟩ : ∃ W3, W3 = (w2.alloc (.cells #[.int .i64 a, .int .i64 b, .int .i64 c, .int .i64 d, .int .i64 m] 39)).alloc (.cells #[.int .i64 p, .int .i64 q, .int .i64 u, .int .i64 v, .int .i64 l] 39) := ⟨_, rfl⟩
  have X3 : BX w B (L4H w.heap.size w2.heap.size a b c d m p q u v l) W3 := hW3 ▸ (X2.add (H5 a b c d m) 39 rfl (by omega)).add (H5 p q u v l) 39 (by simp) (by omega)
  have hs3 : Src W3 B := hW3 ▸ (hs2.alloc _).alloc _
  have hn1 : w.heap.size + 1 < w2.heap.size := X2.lt 1 _ rfl
  clear hs2 X2
  go_upto_region 2 with fail
  rw [← hW3]
  clear hW3
  generalize hk : w2.heap.size = k at *
  clear hk
  go_wp2_with fail
  refine (next_pos B _ _ hs3 (by omega)).mono ?_
  rintro e w4 ⟨r1, rfl, r10, r11, hs4, hc⟩
  have X4 := X3.step hc
  clear hc X3 hs3
  by_cases h0 : 0 < r1
  rotate_left
  · have t0 : decide (0 < r1) = false := decide_eq_false h0
    clear h0
    go_wp2_with fail
    refine (next_pos B _ _ hs4 (by omega)).mono ?_
    rintro e w7 ⟨r4, rfl, r40, r41, hs7, hc⟩
    have X7 := X4.step hc
    clear hc X4 hs4
    by_cases h4 : r4 = 0
    · have t4 : (r4 == 0) = true := beq_iff_eq.2 h4
      clear h4
      obtain ⟨⟨_, _, d2, d3, _⟩, _⟩ := (X7.box 2 _ rfl).five
      obtain ⟨⟨_, _, q2, q3, _⟩, _, _, o2, o3, _⟩ := (X7.box 3 _ rfl).five
      obtain ⟨W8, hW8⟩ : ∃ W8, W8 = (w7.setCell ⟨k + 1, 2, none⟩ (.int .i64 c)).setCell ⟨k + 1, 3, none⟩ (.int .i64 d) := ⟨_, rfl⟩
      have X8 : BX w B (L4H w.heap.size k a b c d m p q c d l) W8 := hW8 ▸ (X7.put 3 2 rfl (by simp) (.int .i64 c)).put 3 3 rfl (by simp) (.int .i64 d)
      have hs8 : Src W8 B := hW8 ▸ (hs7.setCell (by simp; omega) _).setCell (by simp; omega) _
      clear X7 hs7
      go_upto_region 6 with fail
      rw [← hW8]
      clear hW8 d2 d3 q2 q3 o2 o3
      have f20 : ∀ x, HT w B w.heap.size k (H5 a b c d m) (H5 p q c d l) x → x.cell? ⟨k, 0, none⟩ = some (.int .i64 a) := fun x h => h.cell2 0 rfl
      have f21 : ∀ x, HT w B w.heap.size k (H5 a b c d m) (H5 p q c d l) x → x.cell? ⟨k, 1, none⟩ = some (.int .i64 b) := fun x h => h.cell2 1 rfl
      have f22 : ∀ x, HT w B w.heap.size k (H5 a b c d m) (H5 p q c d l) x → x.cell? ⟨k, 2, none⟩ = some (.int .i64 c) := fun x h => h.cell2 2 rfl
      have f23 : ∀ x, HT w B w.heap.size k (H5 a b c d m) (H5 p q c d l) x → x.cell? ⟨k, 3, none⟩ = some (.int .i64 d) := fun x h => h.cell2 3 rfl
      have f24 : ∀ x, HT w B w.heap.size k (H5 a b c d m) (H5 p q c d l) x → x.cell? ⟨k, 4, none⟩ = some (.int .i64 m) := fun x h => h.cell2 4 rfl
      have f30 : ∀ x, HT w B w.heap.size k (H5 a b c d m) (H5 p q c d l) x → x.cell? ⟨k + 1, 0, none⟩ = some (.int .i64 p) := fun x h => h.cell3 0 rfl
      have f31 : ∀ x, HT w B w.heap.size k (H5 a b c d m) (H5 p q c d l) x → x.cell? ⟨k + 1, 1, none⟩ = some (.int .i64 q) := fun x h => h.cell3 1 rfl
      have f32 : ∀ x, HT w B w.heap.size k (H5 a b c d m) (H5 p q c d l) x → x.cell? ⟨k + 1, 2, none⟩ = some (.int .i64 c) := fun x h => h.cell3 2 rfl
      have f33 : ∀ x, HT w B w.heap.size k (H5 a b c d m) (H5 p q c d l) x → x.cell? ⟨k + 1, 3, none⟩ = some (.int .i64 d) := fun x h => h.cell3 3 rfl
      have f34 : ∀ x, HT w B w.heap.size k (H5 a b c d m) (H5 p q c d l) x → x.cell? ⟨k + 1, 4, none⟩ = some (.int .i64 l) := fun x h => h.cell3 4 rfl
      have XD := X8.drew
      have hsD := hs8.drew
      refine wp_region_held_drew (S := HT w B w.heap.size k (H5 a b c d m) (H5 p q c d l)) (by kernel_rfl) (by (try dsimp only); exact HT.mk XD) (fun hHeld => ?_)
      generalize W8.drew = wd at *
      refine Ord.K 0 44 ?_; refine Ord.K 1 45 ?_
      obtain ⟨⟨r0, r1, r2, r3, r4⟩, s0, s1, s2, s3, s4⟩ := (XD.box 0 _ rfl).five
      refine wpAnyH_ready (rs := [2]) (by kernel_rfl) (by simp) ?_
      refine AllReadyH.cons rfl (fun K hK => ?_) AllReadyH.nil
      go_simp
      have XE := put5 XD 0 rfl (.int .i64 a) (.int .i64 b) (.int .i64 c) (.int .i64 d) (.int .i64 m)
      have hsE := src5 hsD hB (.int .i64 a) (.int .i64 b) (.int .i64 c) (.int .i64 d) (.int .i64 m)
      refine hK.out _ _ (HT.mk XE) (fun hHeld => ?_)
      clear hK K r0 r1 r2 r3 r4 s0 s1 s2 s3 s4
      (try simp only [Act.put, Ord.a, Ord.b, Ord.c])
      obtain ⟨⟨r0, r1, r2, r3, r4⟩, s0, s1, s2, s3, s4⟩ := (XE.box 1 _ rfl).five
      refine wpAnyH_ready (rs := [3]) (by kernel_rfl) (by simp) ?_
      refine AllReadyH.cons rfl (fun K hK => ?_) AllReadyH.nil
      go_simp
      have XF := put5 XE 1 rfl (.int .i64 p) (.int .i64 q) (.int .i64 c) (.int .i64 d) (.int .i64 l)
      have hsF := src5 hsE (n := w.heap.size + 1) (by omega) (.int .i64 p) (.int .i64 q) (.int .i64 c) (.int .i64 d) (.int .i64 l)
      refine hK.out _ _ (HT.mk XF) (fun hHeld => ?_)
      clear hK K r0 r1 r2 r3 r4 s0 s1 s2 s3 s4
      (try simp only [Act.put, Ord.a, Ord.b, Ord.c])
      refine wpAnyH_done (by kernel_rfl) ?_ _
      go_wp2
      exact ht_done (XF.box 0 _ rfl) (XF.box 1 _ rfl) rfl rfl hsF XF.chg
    · have t4 : (r4 == 0) = false := beq_eq_false_iff_ne.2 h4
      clear h4
      have f20 : ∀ x, HT w B w.heap.size k (H5 a b c d m) (H5 p q u v l) x → x.cell? ⟨k, 0, none⟩ = some (.int .i64 a) := fun x h => h.cell2 0 rfl
      have f21 : ∀ x, HT w B w.heap.size k (H5 a b c d m) (H5 p q u v l) x → x.cell? ⟨k, 1, none⟩ = some (.int .i64 b) := fun x h => h.cell2 1 rfl
      have f22 : ∀ x, HT w B w.heap.size k (H5 a b c d m) (H5 p q u v l) x → x.cell? ⟨k, 2, none⟩ = some (.int .i64 c) := fun x h => h.cell2 2 rfl
      have f23 : ∀ x, HT w B w.heap.size k (H5 a b c d m) (H5 p q u v l) x → x.cell? ⟨k, 3, none⟩ = some (.int .i64 d) := fun x h => h.cell2 3 rfl
      have f24 : ∀ x, HT w B w.heap.size k (H5 a b c d m) (H5 p q u v l) x → x.cell? ⟨k, 4, none⟩ = some (.int .i64 m) := fun x h => h.cell2 4 rfl
      have f30 : ∀ x, HT w B w.heap.size k (H5 a b c d m) (H5 p q u v l) x → x.cell? ⟨k + 1, 0, none⟩ = some (.int .i64 p) := fun x h => h.cell3 0 rfl
      have f31 : ∀ x, HT w B w.heap.size k (H5 a b c d m) (H5 p q u v l) x → x.cell? ⟨k + 1, 1, none⟩ = some (.int .i64 q) := fun x h => h.cell3 1 rfl
      have f32 : ∀ x, HT w B w.heap.size k (H5 a b c d m) (H5 p q u v l) x → x.cell? ⟨k + 1, 2, none⟩ = some (.int .i64 u) := fun x h => h.cell3 2 rfl
      have f33 : ∀ x, HT w B w.heap.size k (H5 a b c d m) (H5 p q u v l) x → x.cell? ⟨k + 1, 3, none⟩ = some (.int .i64 v) := fun x h => h.cell3 3 rfl
      have f34 : ∀ x, HT w B w.heap.size k (H5 a b c d m) (H5 p q u v l) x → x.cell? ⟨k + 1, 4, none⟩ = some (.int .i64 l) := fun x h => h.cell3 4 rfl
      go_upto_region 6 with fail
      have XD := X7.drew
      have hsD := hs7.drew
      refine wp_region_held_drew (S := HT w B w.heap.size k (H5 a b c d m) (H5 p q u v l)) (by kernel_rfl) (by (try dsimp only); exact HT.mk XD) (fun hHeld => ?_)
      generalize w7.drew = wd at *
      refine Ord.K 0 44 ?_; refine Ord.K 1 45 ?_
      obtain ⟨⟨r0, r1, r2, r3, r4⟩, s0, s1, s2, s3, s4⟩ := (XD.box 0 _ rfl).five
      refine wpAnyH_ready (rs := [2]) (by kernel_rfl) (by simp) ?_
      refine AllReadyH.cons rfl (fun K hK => ?_) AllReadyH.nil
      go_simp
      have XE := put5 XD 0 rfl (.int .i64 a) (.int .i64 b) (.int .i64 c) (.int .i64 d) (.int .i64 m)
      have hsE := src5 hsD hB (.int .i64 a) (.int .i64 b) (.int .i64 c) (.int .i64 d) (.int .i64 m)
      refine hK.out _ _ (HT.mk XE) (fun hHeld => ?_)
      clear hK K r0 r1 r2 r3 r4 s0 s1 s2 s3 s4
      (try simp only [Act.put, Ord.a, Ord.b, Ord.c])
      obtain ⟨⟨r0, r1, r2, r3, r4⟩, s0, s1, s2, s3, s4⟩ := (XE.box 1 _ rfl).five
      refine wpAnyH_ready (rs := [3]) (by kernel_rfl) (by simp) ?_
      refine AllReadyH.cons rfl (fun K hK => ?_) AllReadyH.nil
      go_simp
      have XF := put5 XE 1 rfl (.int .i64 p) (.int .i64 q) (.int .i64 u) (.int .i64 v) (.int .i64 l)
      have hsF := src5 hsE (n := w.heap.size + 1) (by omega) (.int .i64 p) (.int .i64 q) (.int .i64 u) (.int .i64 v) (.int .i64 l)
      refine hK.out _ _ (HT.mk XF) (fun hHeld => ?_)
      clear hK K r0 r1 r2 r3 r4 s0 s1 s2 s3 s4
      (try simp only [Act.put, Ord.a, Ord.b, Ord.c])
      refine wpAnyH_done (by kernel_rfl) ?_ _
      go_wp2
      exact ht_done (XF.box 0 _ rfl) (XF.box 1 _ rfl) rfl rfl hsF XF.chg
  have t0 : decide (0 < r1) = true := decide_eq_true h0
  clear h0
  obtain ⟨⟨d0, d1, _⟩, _⟩ := (X4.box 2 _ rfl).five
  go_wp2_with fail
  refine (isPoint_spec _ _ _).mono ?_
  rintro e w5 ⟨rfl, hy⟩
  have X5 := X4.ext hy
  have hs5 := hs4.ext hy
  clear hy X4 hs4 d0 d1
  cases hp : ptB a b
  · clear hp
    go_wp2_with fail
    refine (next_pos B _ _ hs5 (by omega)).mono ?_
    rintro e w7 ⟨r4, rfl, r40, r41, hs7, hc⟩
    have X7 := X5.step hc
    clear hc X5 hs5
    by_cases h4 : r4 = 0
    · have t4 : (r4 == 0) = true := beq_iff_eq.2 h4
      clear h4
      obtain ⟨⟨_, _, d2, d3, _⟩, _⟩ := (X7.box 2 _ rfl).five
      obtain ⟨⟨_, _, q2, q3, _⟩, _, _, o2, o3, _⟩ := (X7.box 3 _ rfl).five
      obtain ⟨W8, hW8⟩ : ∃ W8, W8 = (w7.setCell ⟨k + 1, 2, none⟩ (.int .i64 c)).setCell ⟨k + 1, 3, none⟩ (.int .i64 d) := ⟨_, rfl⟩
      have X8 : BX w B (L4H w.heap.size k a b c d m p q c d l) W8 := hW8 ▸ (X7.put 3 2 rfl (by simp) (.int .i64 c)).put 3 3 rfl (by simp) (.int .i64 d)
      have hs8 : Src W8 B := hW8 ▸ (hs7.setCell (by simp; omega) _).setCell (by simp; omega) _
      clear X7 hs7
      go_upto_region 6 with fail
      rw [← hW8]
      clear hW8 d2 d3 q2 q3 o2 o3
      have f20 : ∀ x, HT w B w.heap.size k (H5 a b c d m) (H5 p q c d l) x → x.cell? ⟨k, 0, none⟩ = some (.int .i64 a) := fun x h => h.cell2 0 rfl
      have f21 : ∀ x, HT w B w.heap.size k (H5 a b c d m) (H5 p q c d l) x → x.cell? ⟨k, 1, none⟩ = some (.int .i64 b) := fun x h => h.cell2 1 rfl
      have f22 : ∀ x, HT w B w.heap.size k (H5 a b c d m) (H5 p q c d l) x → x.cell? ⟨k, 2, none⟩ = some (.int .i64 c) := fun x h => h.cell2 2 rfl
      have f23 : ∀ x, HT w B w.heap.size k (H5 a b c d m) (H5 p q c d l) x → x.cell? ⟨k, 3, none⟩ = some (.int .i64 d) := fun x h => h.cell2 3 rfl
      have f24 : ∀ x, HT w B w.heap.size k (H5 a b c d m) (H5 p q c d l) x → x.cell? ⟨k, 4, none⟩ = some (.int .i64 m) := fun x h => h.cell2 4 rfl
      have f30 : ∀ x, HT w B w.heap.size k (H5 a b c d m) (H5 p q c d l) x → x.cell? ⟨k + 1, 0, none⟩ = some (.int .i64 p) := fun x h => h.cell3 0 rfl
      have f31 : ∀ x, HT w B w.heap.size k (H5 a b c d m) (H5 p q c d l) x → x.cell? ⟨k + 1, 1, none⟩ = some (.int .i64 q) := fun x h => h.cell3 1 rfl
      have f32 : ∀ x, HT w B w.heap.size k (H5 a b c d m) (H5 p q c d l) x → x.cell? ⟨k + 1, 2, none⟩ = some (.int .i64 c) := fun x h => h.cell3 2 rfl
      have f33 : ∀ x, HT w B w.heap.size k (H5 a b c d m) (H5 p q c d l) x → x.cell? ⟨k + 1, 3, none⟩ = some (.int .i64 d) := fun x h => h.cell3 3 rfl
      have f34 : ∀ x, HT w B w.heap.size k (H5 a b c d m) (H5 p q c d l) x → x.cell? ⟨k + 1, 4, none⟩ = some (.int .i64 l) := fun x h => h.cell3 4 rfl
      have XD := X8.drew
      have hsD := hs8.drew
      refine wp_region_held_drew (S := HT w B w.heap.size k (H5 a b c d m) (H5 p q c d l)) (by kernel_rfl) (by (try dsimp only); exact HT.mk XD) (fun hHeld => ?_)
      generalize W8.drew = wd at *
      refine Ord.K 0 44 ?_; refine Ord.K 1 45 ?_
      obtain ⟨⟨r0, r1, r2, r3, r4⟩, s0, s1, s2, s3, s4⟩ := (XD.box 0 _ rfl).five
      refine wpAnyH_ready (rs := [2]) (by kernel_rfl) (by simp) ?_
      refine AllReadyH.cons rfl (fun K hK => ?_) AllReadyH.nil
      go_simp
      have XE := put5 XD 0 rfl (.int .i64 a) (.int .i64 b) (.int .i64 c) (.int .i64 d) (.int .i64 m)
      have hsE := src5 hsD hB (.int .i64 a) (.int .i64 b) (.int .i64 c) (.int .i64 d) (.int .i64 m)
      refine hK.out _ _ (HT.mk XE) (fun hHeld => ?_)
      clear hK K r0 r1 r2 r3 r4 s0 s1 s2 s3 s4
      (try simp only [Act.put, Ord.a, Ord.b, Ord.c])
      obtain ⟨⟨r0, r1, r2, r3, r4⟩, s0, s1, s2, s3, s4⟩ := (XE.box 1 _ rfl).five
      refine wpAnyH_ready (rs := [3]) (by kernel_rfl) (by simp) ?_
      refine AllReadyH.cons rfl (fun K hK => ?_) AllReadyH.nil
      go_simp
      have XF := put5 XE 1 rfl (.int .i64 p) (.int .i64 q) (.int .i64 c) (.int .i64 d) (.int .i64 l)
      have hsF := src5 hsE (n := w.heap.size + 1) (by omega) (.int .i64 p) (.int .i64 q) (.int .i64 c) (.int .i64 d) (.int .i64 l)
      refine hK.out _ _ (HT.mk XF) (fun hHeld => ?_)
      clear hK K r0 r1 r2 r3 r4 s0 s1 s2 s3 s4
      (try simp only [Act.put, Ord.a, Ord.b, Ord.c])
      refine wpAnyH_done (by kernel_rfl) ?_ _
      go_wp2
      exact ht_done (XF.box 0 _ rfl) (XF.box 1 _ rfl) rfl rfl hsF XF.chg
    · have t4 : (r4 == 0) = false := beq_eq_false_iff_ne.2 h4
      clear h4
      have f20 : ∀ x, HT w B w.heap.size k (H5 a b c d m) (H5 p q u v l) x → x.cell? ⟨k, 0, none⟩ = some (.int .i64 a) := fun x h => h.cell2 0 rfl
      have f21 : ∀ x, HT w B w.heap.size k (H5 a b c d m) (H5 p q u v l) x → x.cell? ⟨k, 1, none⟩ = some (.int .i64 b) := fun x h => h.cell2 1 rfl
      have f22 : ∀ x, HT w B w.heap.size k (H5 a b c d m) (H5 p q u v l) x → x.cell? ⟨k, 2, none⟩ = some (.int .i64 c) := fun x h => h.cell2 2 rfl
      have f23 : ∀ x, HT w B w.heap.size k (H5 a b c d m) (H5 p q u v l) x → x.cell? ⟨k, 3, none⟩ = some (.int .i64 d) := fun x h => h.cell2 3 rfl
      have f24 : ∀ x, HT w B w.heap.size k (H5 a b c d m) (H5 p q u v l) x → x.cell? ⟨k, 4, none⟩ = some (.int .i64 m) := fun x h => h.cell2 4 rfl
      have f30 : ∀ x, HT w B w.heap.size k (H5 a b c d m) (H5 p q u v l) x → x.cell? ⟨k + 1, 0, none⟩ = some (.int .i64 p) := fun x h => h.cell3 0 rfl
      have f31 : ∀ x, HT w B w.heap.size k (H5 a b c d m) (H5 p q u v l) x → x.cell? ⟨k + 1, 1, none⟩ = some (.int .i64 q) := fun x h => h.cell3 1 rfl
      have f32 : ∀ x, HT w B w.heap.size k (H5 a b c d m) (H5 p q u v l) x → x.cell? ⟨k + 1, 2, none⟩ = some (.int .i64 u) := fun x h => h.cell3 2 rfl
      have f33 : ∀ x, HT w B w.heap.size k (H5 a b c d m) (H5 p q u v l) x → x.cell? ⟨k + 1, 3, none⟩ = some (.int .i64 v) := fun x h => h.cell3 3 rfl
      have f34 : ∀ x, HT w B w.heap.size k (H5 a b c d m) (H5 p q u v l) x → x.cell? ⟨k + 1, 4, none⟩ = some (.int .i64 l) := fun x h => h.cell3 4 rfl
      go_upto_region 6 with fail
      have XD := X7.drew
      have hsD := hs7.drew
      refine wp_region_held_drew (S := HT w B w.heap.size k (H5 a b c d m) (H5 p q u v l)) (by kernel_rfl) (by (try dsimp only); exact HT.mk XD) (fun hHeld => ?_)
      generalize w7.drew = wd at *
      refine Ord.K 0 44 ?_; refine Ord.K 1 45 ?_
      obtain ⟨⟨r0, r1, r2, r3, r4⟩, s0, s1, s2, s3, s4⟩ := (XD.box 0 _ rfl).five
      refine wpAnyH_ready (rs := [2]) (by kernel_rfl) (by simp) ?_
      refine AllReadyH.cons rfl (fun K hK => ?_) AllReadyH.nil
      go_simp
      have XE := put5 XD 0 rfl (.int .i64 a) (.int .i64 b) (.int .i64 c) (.int .i64 d) (.int .i64 m)
      have hsE := src5 hsD hB (.int .i64 a) (.int .i64 b) (.int .i64 c) (.int .i64 d) (.int .i64 m)
      refine hK.out _ _ (HT.mk XE) (fun hHeld => ?_)
      clear hK K r0 r1 r2 r3 r4 s0 s1 s2 s3 s4
      (try simp only [Act.put, Ord.a, Ord.b, Ord.c])
      obtain ⟨⟨r0, r1, r2, r3, r4⟩, s0, s1, s2, s3, s4⟩ := (XE.box 1 _ rfl).five
      refine wpAnyH_ready (rs := [3]) (by kernel_rfl) (by simp) ?_
      refine AllReadyH.cons rfl (fun K hK => ?_) AllReadyH.nil
      go_simp
      have XF := put5 XE 1 rfl (.int .i64 p) (.int .i64 q) (.int .i64 u) (.int .i64 v) (.int .i64 l)
      have hsF := src5 hsE (n := w.heap.size + 1) (by omega) (.int .i64 p) (.int .i64 q) (.int .i64 u) (.int .i64 v) (.int .i64 l)
      refine hK.out _ _ (HT.mk XF) (fun hHeld => ?_)
      clear hK K r0 r1 r2 r3 r4 s0 s1 s2 s3 s4
      (try simp only [Act.put, Ord.a, Ord.b, Ord.c])
      refine wpAnyH_done (by kernel_rfl) ?_ _
      go_wp2
      exact ht_done (XF.box 0 _ rfl) (XF.box 1 _ rfl) rfl rfl hsF XF.chg
  clear hp
  have e0 : ∀ x, (∃ P Q : Int, BX w B (L4H w.heap.size k a b c d m P Q u v l) x) → x.cell? ⟨k, 0, none⟩ = some (.int .i64 a) := fun x h => by obtain ⟨_, _, h⟩ := h; exact h.cell 2 0 rfl rfl
  have e1 : ∀ x, (∃ P Q : Int, BX w B (L4H w.heap.size k a b c d m P Q u v l) x) → x.cell? ⟨k, 1, none⟩ = some (.int .i64 b) := fun x h => by obtain ⟨_, _, h⟩ := h; exact h.cell 2 1 rfl rfl
  go_upto_region 3 with fail
  have XD := X5.drew
  refine wp_region_held_drew (S := fun x => ∃ P Q : Int, BX w B (L4H w.heap.size k a b c d m P Q u v l) x) (by kernel_rfl) (by (try dsimp only); exact ⟨_, _, XD⟩) (fun hHeld => ?_)
  refine Ord.K 0 18 ?_; refine Ord.K 1 19 ?_; refine Ord.K 2 20 ?_; refine Ord.K 3 21 ?_; refine Ord.K 9 27 ?_; refine Ord.K 10 28 ?_; refine Ord.K 11 29 ?_; refine Ord.K 12 30 ?_
  refine wpAnyH_ready (rs := [4]) (by kernel_rfl) (by simp) ?_
  refine AllReadyH.cons rfl (fun K hK => ?_) AllReadyH.nil
  go_simp
  go_at_call 47
  refine (next_pos B _ _ hs5.drew (by omega)).mono ?_
  rintro e w6 ⟨r2, rfl, r20, r21, hs6, hc⟩
  go_wp2_with fail
  replace XD := XD.step hc
  refine hK.out _ _ ⟨_, _, XD⟩ (fun hHeld => ?_)
  clear hK K hc
  (try simp only [Act.put, Ord.a, Ord.b, Ord.c])
  refine Ord.K 5 23 ?_; refine Ord.K 6 24 ?_
  obtain ⟨z1, hz1⟩ : ∃ z, z = IntKind.i64.wrap (IntKind.i64.wrap (a + r2) - 40) := ⟨_, rfl⟩
  simp only [← hz1]
  clear hz1
  refine Ord.takeH 7 25 (v := .int .i64 (if z1 > -1000000 then z1 else -1000000)) rfl rfl (by kernel_rfl) (by kernel_rfl) (by kernel_rfl) (fun _ _ _ h => h) (by rfl) (by intro x hx; go_simp) (by assumption) ?_
  (try simp only [Act.put, Ord.a, Ord.b, Ord.c])
  obtain ⟨z2, hz2⟩ : ∃ z, z = (if z1 > -1000000 then z1 else -1000000) := ⟨_, rfl⟩
  simp only [← hz2]
  clear hz2
  refine Ord.takeH 8 26 (v := .int .i64 (if z2 < 1000000 then z2 else 1000000)) rfl rfl (by kernel_rfl) (by kernel_rfl) (by kernel_rfl) (fun _ _ _ h => h) (by rfl) (by intro x hx; go_simp) (by assumption) ?_
  (try simp only [Act.put, Ord.a, Ord.b, Ord.c])
  obtain ⟨z3, hz3⟩ : ∃ z, z = (if z2 < 1000000 then z2 else 1000000) := ⟨_, rfl⟩
  simp only [← hz3]
  clear hz3
  refine wpAnyH_ready (rs := [13]) (by kernel_rfl) (by simp) ?_
  refine AllReadyH.cons rfl (fun K hK => ?_) AllReadyH.nil
  go_simp
  go_at_call 47
  refine (next_pos B _ _ hs6 (by omega)).mono ?_
  rintro e w6 ⟨r3, rfl, r30, r31, hs6, hc⟩
  go_wp2_with fail
  replace XD := XD.step hc
  refine hK.out _ _ ⟨_, _, XD⟩ (fun hHeld => ?_)
  clear hK K hc
  (try simp only [Act.put, Ord.a, Ord.b, Ord.c])
  refine Ord.K 14 32 ?_; refine Ord.K 15 33 ?_
  obtain ⟨y1, hy1⟩ : ∃ z, z = IntKind.i64.wrap (IntKind.i64.wrap (b + r3) - 40) := ⟨_, rfl⟩
  simp only [← hy1]
  clear hy1
  refine Ord.takeH 16 34 (v := .int .i64 (if y1 > -1000000 then y1 else -1000000)) rfl rfl (by kernel_rfl) (by kernel_rfl) (by kernel_rfl) (fun _ _ _ h => h) (by rfl) (by intro x hx; go_simp) (by assumption) ?_
  (try simp only [Act.put, Ord.a, Ord.b, Ord.c])
  obtain ⟨y2, hy2⟩ : ∃ z, z = (if y1 > -1000000 then y1 else -1000000) := ⟨_, rfl⟩
  simp only [← hy2]
  clear hy2
  refine Ord.takeH 17 35 (v := .int .i64 (if y2 < 1000000 then y2 else 1000000)) rfl rfl (by kernel_rfl) (by kernel_rfl) (by kernel_rfl) (fun _ _ _ h => h) (by rfl) (by intro x hx; go_simp) (by assumption) ?_
  (try simp only [Act.put, Ord.a, Ord.b, Ord.c])
  obtain ⟨y3, hy3⟩ : ∃ z, z = (if y2 < 1000000 then y2 else 1000000) := ⟨_, rfl⟩
  simp only [← hy3]
  clear hy3
  refine Ord.K 18 36 ?_; refine Ord.K 19 37 ?_
  obtain ⟨⟨q0, q1, _⟩, p0, p1, _⟩ := (XD.box 3 _ rfl).five
  refine wpAnyH_ready (rs := [20]) (by kernel_rfl) (by simp) ?_
  refine AllReadyH.cons rfl (fun K hK => ?_) AllReadyH.nil
  go_simp
  have X9 : BX w B (L4H w.heap.size k a b c d m z3 y3 u v l) ((w6.setCell ⟨k + 1, 0, none⟩ (.int .i64 z3)).setCell ⟨k + 1, 1, none⟩ (.int .i64 y3)) := (XD.put 3 0 rfl (by simp) (.int .i64 z3)).put 3 1 rfl (by simp) (.int .i64 y3)
  have hs9 : Src ((w6.setCell ⟨k + 1, 0, none⟩ (.int .i64 z3)).setCell ⟨k + 1, 1, none⟩ (.int .i64 y3)) B := (hs6.setCell (by simp; omega) _).setCell (by simp; omega) _
  refine hK.out _ _ ⟨_, _, X9⟩ (fun hHeld => ?_)
  clear hK K q0 q1 p0 p1 XD hs6 hHeld
  (try simp only [Act.put, Ord.a, Ord.b, Ord.c])
  generalize (w6.setCell ⟨k + 1, 0, none⟩ (.int .i64 z3)).setCell ⟨k + 1, 1, none⟩ (.int .i64 y3) = W9 at *
  refine wpAnyH_done (by kernel_rfl) ?_ _
  go_wp2_with fail
  refine (next_pos B _ _ hs9 (by omega)).mono ?_
  rintro e w7 ⟨r4, rfl, r40, r41, hs7, hc⟩
  have X7 := X9.step hc
  clear hc X9 hs9
  by_cases h4 : r4 = 0
  · have t4 : (r4 == 0) = true := beq_iff_eq.2 h4
    clear h4
    obtain ⟨⟨_, _, d2, d3, _⟩, _⟩ := (X7.box 2 _ rfl).five
    obtain ⟨⟨_, _, q2, q3, _⟩, _, _, o2, o3, _⟩ := (X7.box 3 _ rfl).five
    obtain ⟨W8, hW8⟩ : ∃ W8, W8 = (w7.setCell ⟨k + 1, 2, none⟩ (.int .i64 c)).setCell ⟨k + 1, 3, none⟩ (.int .i64 d) := ⟨_, rfl⟩
    have X8 : BX w B (L4H w.heap.size k a b c d m z3 y3 c d l) W8 := hW8 ▸ (X7.put 3 2 rfl (by simp) (.int .i64 c)).put 3 3 rfl (by simp) (.int .i64 d)
    have hs8 : Src W8 B := hW8 ▸ (hs7.setCell (by simp; omega) _).setCell (by simp; omega) _
    clear X7 hs7
    go_upto_region 6 with fail
    rw [← hW8]
    clear hW8 d2 d3 q2 q3 o2 o3
    have f20 : ∀ x, HT w B w.heap.size k (H5 a b c d m) (H5 z3 y3 c d l) x → x.cell? ⟨k, 0, none⟩ = some (.int .i64 a) := fun x h => h.cell2 0 rfl
    have f21 : ∀ x, HT w B w.heap.size k (H5 a b c d m) (H5 z3 y3 c d l) x → x.cell? ⟨k, 1, none⟩ = some (.int .i64 b) := fun x h => h.cell2 1 rfl
    have f22 : ∀ x, HT w B w.heap.size k (H5 a b c d m) (H5 z3 y3 c d l) x → x.cell? ⟨k, 2, none⟩ = some (.int .i64 c) := fun x h => h.cell2 2 rfl
    have f23 : ∀ x, HT w B w.heap.size k (H5 a b c d m) (H5 z3 y3 c d l) x → x.cell? ⟨k, 3, none⟩ = some (.int .i64 d) := fun x h => h.cell2 3 rfl
    have f24 : ∀ x, HT w B w.heap.size k (H5 a b c d m) (H5 z3 y3 c d l) x → x.cell? ⟨k, 4, none⟩ = some (.int .i64 m) := fun x h => h.cell2 4 rfl
    have f30 : ∀ x, HT w B w.heap.size k (H5 a b c d m) (H5 z3 y3 c d l) x → x.cell? ⟨k + 1, 0, none⟩ = some (.int .i64 z3) := fun x h => h.cell3 0 rfl
    have f31 : ∀ x, HT w B w.heap.size k (H5 a b c d m) (H5 z3 y3 c d l) x → x.cell? ⟨k + 1, 1, none⟩ = some (.int .i64 y3) := fun x h => h.cell3 1 rfl
    have f32 : ∀ x, HT w B w.heap.size k (H5 a b c d m) (H5 z3 y3 c d l) x → x.cell? ⟨k + 1, 2, none⟩ = some (.int .i64 c) := fun x h => h.cell3 2 rfl
    have f33 : ∀ x, HT w B w.heap.size k (H5 a b c d m) (H5 z3 y3 c d l) x → x.cell? ⟨k + 1, 3, none⟩ = some (.int .i64 d) := fun x h => h.cell3 3 rfl
    have f34 : ∀ x, HT w B w.heap.size k (H5 a b c d m) (H5 z3 y3 c d l) x → x.cell? ⟨k + 1, 4, none⟩ = some (.int .i64 l) := fun x h => h.cell3 4 rfl
    have XD := X8.drew
    have hsD := hs8.drew
    refine wp_region_held_drew (S := HT w B w.heap.size k (H5 a b c d m) (H5 z3 y3 c d l)) (by kernel_rfl) (by (try dsimp only); exact HT.mk XD) (fun hHeld => ?_)
    generalize W8.drew = wd at *
    refine Ord.K 0 44 ?_; refine Ord.K 1 45 ?_
    obtain ⟨⟨r0, r1, r2, r3, r4⟩, s0, s1, s2, s3, s4⟩ := (XD.box 0 _ rfl).five
    refine wpAnyH_ready (rs := [2]) (by kernel_rfl) (by simp) ?_
    refine AllReadyH.cons rfl (fun K hK => ?_) AllReadyH.nil
    go_simp
    have XE := put5 XD 0 rfl (.int .i64 a) (.int .i64 b) (.int .i64 c) (.int .i64 d) (.int .i64 m)
    have hsE := src5 hsD hB (.int .i64 a) (.int .i64 b) (.int .i64 c) (.int .i64 d) (.int .i64 m)
    refine hK.out _ _ (HT.mk XE) (fun hHeld => ?_)
    clear hK K r0 r1 r2 r3 r4 s0 s1 s2 s3 s4
    (try simp only [Act.put, Ord.a, Ord.b, Ord.c])
    obtain ⟨⟨r0, r1, r2, r3, r4⟩, s0, s1, s2, s3, s4⟩ := (XE.box 1 _ rfl).five
    refine wpAnyH_ready (rs := [3]) (by kernel_rfl) (by simp) ?_
    refine AllReadyH.cons rfl (fun K hK => ?_) AllReadyH.nil
    go_simp
    have XF := put5 XE 1 rfl (.int .i64 z3) (.int .i64 y3) (.int .i64 c) (.int .i64 d) (.int .i64 l)
    have hsF := src5 hsE (n := w.heap.size + 1) (by omega) (.int .i64 z3) (.int .i64 y3) (.int .i64 c) (.int .i64 d) (.int .i64 l)
    refine hK.out _ _ (HT.mk XF) (fun hHeld => ?_)
    clear hK K r0 r1 r2 r3 r4 s0 s1 s2 s3 s4
    (try simp only [Act.put, Ord.a, Ord.b, Ord.c])
    refine wpAnyH_done (by kernel_rfl) ?_ _
    go_wp2
    exact ht_done (XF.box 0 _ rfl) (XF.box 1 _ rfl) rfl rfl hsF XF.chg
  · have t4 : (r4 == 0) = false := beq_eq_false_iff_ne.2 h4
    clear h4
    have f20 : ∀ x, HT w B w.heap.size k (H5 a b c d m) (H5 z3 y3 u v l) x → x.cell? ⟨k, 0, none⟩ = some (.int .i64 a) := fun x h => h.cell2 0 rfl
    have f21 : ∀ x, HT w B w.heap.size k (H5 a b c d m) (H5 z3 y3 u v l) x → x.cell? ⟨k, 1, none⟩ = some (.int .i64 b) := fun x h => h.cell2 1 rfl
    have f22 : ∀ x, HT w B w.heap.size k (H5 a b c d m) (H5 z3 y3 u v l) x → x.cell? ⟨k, 2, none⟩ = some (.int .i64 c) := fun x h => h.cell2 2 rfl
    have f23 : ∀ x, HT w B w.heap.size k (H5 a b c d m) (H5 z3 y3 u v l) x → x.cell? ⟨k, 3, none⟩ = some (.int .i64 d) := fun x h => h.cell2 3 rfl
    have f24 : ∀ x, HT w B w.heap.size k (H5 a b c d m) (H5 z3 y3 u v l) x → x.cell? ⟨k, 4, none⟩ = some (.int .i64 m) := fun x h => h.cell2 4 rfl
    have f30 : ∀ x, HT w B w.heap.size k (H5 a b c d m) (H5 z3 y3 u v l) x → x.cell? ⟨k + 1, 0, none⟩ = some (.int .i64 z3) := fun x h => h.cell3 0 rfl
    have f31 : ∀ x, HT w B w.heap.size k (H5 a b c d m) (H5 z3 y3 u v l) x → x.cell? ⟨k + 1, 1, none⟩ = some (.int .i64 y3) := fun x h => h.cell3 1 rfl
    have f32 : ∀ x, HT w B w.heap.size k (H5 a b c d m) (H5 z3 y3 u v l) x → x.cell? ⟨k + 1, 2, none⟩ = some (.int .i64 u) := fun x h => h.cell3 2 rfl
    have f33 : ∀ x, HT w B w.heap.size k (H5 a b c d m) (H5 z3 y3 u v l) x → x.cell? ⟨k + 1, 3, none⟩ = some (.int .i64 v) := fun x h => h.cell3 3 rfl
    have f34 : ∀ x, HT w B w.heap.size k (H5 a b c d m) (H5 z3 y3 u v l) x → x.cell? ⟨k + 1, 4, none⟩ = some (.int .i64 l) := fun x h => h.cell3 4 rfl
    go_upto_region 6 with fail
    have XD := X7.drew
    have hsD := hs7.drew
    refine wp_region_held_drew (S := HT w B w.heap.size k (H5 a b c d m) (H5 z3 y3 u v l)) (by kernel_rfl) (by (try dsimp only); exact HT.mk XD) (fun hHeld => ?_)
    generalize w7.drew = wd at *
    refine Ord.K 0 44 ?_; refine Ord.K 1 45 ?_
    obtain ⟨⟨r0, r1, r2, r3, r4⟩, s0, s1, s2, s3, s4⟩ := (XD.box 0 _ rfl).five
    refine wpAnyH_ready (rs := [2]) (by kernel_rfl) (by simp) ?_
    refine AllReadyH.cons rfl (fun K hK => ?_) AllReadyH.nil
    go_simp
    have XE := put5 XD 0 rfl (.int .i64 a) (.int .i64 b) (.int .i64 c) (.int .i64 d) (.int .i64 m)
    have hsE := src5 hsD hB (.int .i64 a) (.int .i64 b) (.int .i64 c) (.int .i64 d) (.int .i64 m)
    refine hK.out _ _ (HT.mk XE) (fun hHeld => ?_)
    clear hK K r0 r1 r2 r3 r4 s0 s1 s2 s3 s4
    (try simp only [Act.put, Ord.a, Ord.b, Ord.c])
    obtain ⟨⟨r0, r1, r2, r3, r4⟩, s0, s1, s2, s3, s4⟩ := (XE.box 1 _ rfl).five
    refine wpAnyH_ready (rs := [3]) (by kernel_rfl) (by simp) ?_
    refine AllReadyH.cons rfl (fun K hK => ?_) AllReadyH.nil
    go_simp
    have XF := put5 XE 1 rfl (.int .i64 z3) (.int .i64 y3) (.int .i64 u) (.int .i64 v) (.int .i64 l)
    have hsF := src5 hsE (n := w.heap.size + 1) (by omega) (.int .i64 z3) (.int .i64 y3) (.int .i64 u) (.int .i64 v) (.int .i64 l)
    refine hK.out _ _ (HT.mk XF) (fun hHeld => ?_)
    clear hK K r0 r1 r2 r3 r4 s0 s1 s2 s3 s4
    (try simp only [Act.put, Ord.a, Ord.b, Ord.c])
    refine wpAnyH_done (by kernel_rfl) ?_ _
    go_wp2
    exact ht_done (XF.box 0 _ rfl) (XF.box 1 _ rfl) rfl rfl hsF XF.chg

end Go.Proofs.Ytcangdcakgcpaaa.Draw
