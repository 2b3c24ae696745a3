/- Parts of this claim in one text: Res6, DrawRl, Big, RuleLaw. -/
import Derived.Test.YtlheppblioglpaaGreatDoorCel
import Derived.Test.YtlheppblioglpaaGreatDoorDrawHt
import Derived.Test.YtlheppblioglpaaGreatDoorNum
import Derived.Test.YtlheppblioglpaaGreatDoorKit
import Derived.Test.YtlheppblioglpaaGreatDoorRul5
import Derived.Test.YtlheppblioglpaaGreatDoorMCrp
import Derived.ChangeOld
import Derived.Below
import Derived.Lib.SmallJoins
import Derived.Deep.DeepCutAuto

/- Words on a box of six cells, of no program. -/
namespace Go.Proofs.YtlheppblioglpaaGreatDoor.Kit
open Go.ChangeShapes Go.WideShapes Go.ChangeAt Go.RowKit

theorem Box.six {w : World} {n : Nat} {x y z u r s : Value} (h : Box w n [x, y, z, u, r, s]) : (w.cell? ⟨n, 0, none⟩ = some x ∧ w.cell? ⟨n, 1, none⟩ = some y ∧ w.cell? ⟨n, 2, none⟩ = some z ∧ w.cell? ⟨n, 3, none⟩ = some u ∧ w.cell? ⟨n, 4, none⟩ = some r ∧ w.cell? ⟨n, 5, none⟩ = some s) ∧
    w.frozen? ⟨n, 0, none⟩ = false ∧ w.frozen? ⟨n, 1, none⟩ = false ∧ w.frozen? ⟨n, 2, none⟩ = false ∧ w.frozen? ⟨n, 3, none⟩ = false ∧ w.frozen? ⟨n, 4, none⟩ = false ∧ w.frozen? ⟨n, 5, none⟩ = false :=
  ⟨⟨(h 0 x rfl).1, (h 1 y rfl).1, (h 2 z rfl).1, (h 3 u rfl).1, (h 4 r rfl).1, (h 5 s rfl).1⟩, (h 0 x rfl).2, (h 1 y rfl).2, (h 2 z rfl).2, (h 3 u rfl).2, (h 4 r rfl).2, (h 5 s rfl).2⟩
theorem Box.set6 {w : World} {n : Nat} {x y z u r s a b c d e f : Value} (h : Box w n [x, y, z, u, r, s]) : Box ((((((w.setCell ⟨n, 0, none⟩ a).setCell ⟨n, 1, none⟩ b).setCell ⟨n, 2, none⟩ c).setCell ⟨n, 3, none⟩ d).setCell ⟨n, 4, none⟩ e).setCell ⟨n, 5, none⟩ f) n [a, b, c, d, e, f] :=
  (((((h.set 0 (by simp) a).set 1 (by simp) b).set 2 (by simp) c).set 3 (by simp) d).set 4 (by simp) e).set 5 (by simp) f

end Go.Proofs.YtlheppblioglpaaGreatDoor.Kit

/- The draws of chapter 10: two boats (l10Draw), a wind and two boats (DrawRuleOn). -/
namespace Go.Proofs.YtlheppblioglpaaGreatDoor.Draw
open Go.ChangeShapes Go.WideShapes Go.ChangeAt Go.RowKit
open Go.Proofs.YtlheppblioglpaaGreatDoor.Num Go.Proofs.YtlheppblioglpaaGreatDoor.Kit Go.Proofs.YtlheppblioglpaaGreatDoor.Pts Go.Proofs.YtlheppblioglpaaGreatDoor.Hul
set_option linter.unusedVariables false
set_option linter.unusedSimpArgs false

abbrev Bw (a b c d n : Int) (s : Bool) : Value := .agg #[.int .i64 a, .int .i64 b, .int .i64 c, .int .i64 d, .int .i64 n, .bool s]
abbrev H6 (a b c d n : Int) (s : Bool) : List Value := [.int .i64 a, .int .i64 b, .int .i64 c, .int .i64 d, .int .i64 n, .bool s]
/-- Two boats come out. -/
def ABo2 (B : Nat) (w : World) (e : Ending) (w' : World) : Prop := ∃ (a b c d n : Int) (s : Bool) (p q u v m : Int) (t : Bool), e = .returned (.tuple #[Bw a b c d n s, Bw p q u v m t]) ∧ Src w' B ∧ Chg B w w'
theorem put6 {w : World} {B : Nat} {L : List (Nat × List Value)} {u : World} (h : BX w B L u) (i : Nat) {n : Nat} {x y z s t r : Value} (hi : L[i]? = some (n, [x, y, z, s, t, r])) (a b c d e f : Value) :
    BX w B (L.set i (n, [a, b, c, d, e, f])) ((((((u.setCell ⟨n, 0, none⟩ a).setCell ⟨n, 1, none⟩ b).setCell ⟨n, 2, none⟩ c).setCell ⟨n, 3, none⟩ d).setCell ⟨n, 4, none⟩ e).setCell ⟨n, 5, none⟩ f) := by
  have hl := (List.getElem?_eq_some_iff.1 hi).1
  have g : ∀ (q : Nat × List Value), (L.set i q)[i]? = some q := fun q => by rw [List.getElem?_set, if_pos rfl, if_pos hl]
  have h1 := h.put i 0 hi (by simp) a
  have h2 := h1.put i 1 (g _) (by simp) b
  have h3 := h2.put i 2 (by rw [List.set_set]; exact g _) (by simp) c
  have h4 := h3.put i 3 (by rw [List.set_set, List.set_set]; exact g _) (by simp) d
  have h5 := h4.put i 4 (by rw [List.set_set, List.set_set, List.set_set]; exact g _) (by simp) e
  have h6 := h5.put i 5 (by rw [List.set_set, List.set_set, List.set_set, List.set_set]; exact g _) (by simp) f
  simp only [List.set_set] at h6
  exact h6
theorem src6 {W : World} {B n : Nat} (h : Src W B) (hn : B < n) (a b c d e f : Value) : Src ((((((W.setCell ⟨n, 0, none⟩ a).setCell ⟨n, 1, none⟩ b).setCell ⟨n, 2, none⟩ c).setCell ⟨n, 3, none⟩ d).setCell ⟨n, 4, none⟩ e).setCell ⟨n, 5, none⟩ f) B :=
  (((((h.setCell hn _).setCell hn _).setCell hn _).setCell hn _).setCell hn _).setCell hn _

/-- The boxes of two results and of two hulls. -/
def HS (w : World) (B n k : Nat) (A C : List Value) (z : World) : Prop := ∃ x0 x1 x2 x3 x4 x5 y0 y1 y2 y3 y4 y5, BX w B [(n, [x0, x1, x2, x3, x4, x5]), (n + 1, [y0, y1, y2, y3, y4, y5]), (k, A), (k + 1, C)] z
theorem HS.mk {w : World} {B n k : Nat} {A C : List Value} {z : World} {x0 x1 x2 x3 x4 x5 y0 y1 y2 y3 y4 y5 : Value} (h : BX w B [(n, [x0, x1, x2, x3, x4, x5]), (n + 1, [y0, y1, y2, y3, y4, y5]), (k, A), (k + 1, C)] z) : HS w B n k A C z := ⟨_, _, _, _, _, _, _, _, _, _, _, _, h⟩
theorem HS.cell2 {w : World} {B n k : Nat} {A C : List Value} {x : World} (h : HS w B n k A C x) (j : Nat) {v : Value} (hj : A[j]? = some v) : x.cell? ⟨k, j, none⟩ = some v := by
  obtain ⟨_, _, _, _, _, _, _, _, _, _, _, _, h⟩ := h
  exact h.cell 2 j rfl hj
theorem HS.cell3 {w : World} {B n k : Nat} {A C : List Value} {x : World} (h : HS w B n k A C x) (j : Nat) {v : Value} (hj : C[j]? = some v) : x.cell? ⟨k + 1, j, none⟩ = some v := by
  obtain ⟨_, _, _, _, _, _, _, _, _, _, _, _, h⟩ := h
  exact h.cell 3 j rfl hj

set_option maxRecDepth 100000 in
set_option maxHeartbeats 4000000 in
theorem drawBoats_any (B : Nat) (w : World) (hs : Src w B) : Calls Tryz.prog 12 #[.pointer (some ⟨B, 0, none⟩)] w (ABo2 B w) := by
  have hB := hs.lt
  obtain ⟨W0, hW0⟩ : ∃ W0, W0 = (w.alloc (.cells #[.int .i64 0, .int .i64 0, .int .i64 0, .int .i64 0, .int .i64 0, .bool false] 30)).alloc (.cells #[.int .i64 0, .int .i64 0, .int .i64 0, .int .i64 0, .int .i64 0, .bool false] 30) := ⟨_, rfl⟩
  have X0 : BX w B [(w.heap.size, H6 0 0 0 0 0 false), (w.heap.size + 1, H6 0 0 0 0 0 false)] W0 := hW0 ▸ ((BX.nil w B).add (H6 0 0 0 0 0 false) 30 rfl (by omega)).add (H6 0 0 0 0 0 false) 30 (by simp) (by omega)
  have hs0 : Src W0 B := hW0 ▸ (hs.alloc _).alloc _
  clear hs
  go_enter Tryz.func12, Tryz.ntmps12
  go_wp2_with fail
  rw [← hW0]
  clear hW0
  refine (drawTwo_any B _ hs0).mono ?_
  rintro e w2 ⟨x, b, c, d, m, p, q, u, v, l, rfl, hs2, hc⟩
  have X2 := X0.step hc
  clear hc hs0 X0
  have hB2 := hs2.lt
  obtain ⟨W3, hW3⟩ : ∃ W3, W3 = (w2.alloc (.cells #[.int .i64 x, .int .i64 b, .int .i64 c, .int .i64 d, .int .i64 m] 28)).alloc (.cells #[.int .i64 p, .int .i64 q, .int .i64 u, .int .i64 v, .int .i64 l] 28) := ⟨_, rfl⟩
  have X3 : BX w B [(w.heap.size, H6 0 0 0 0 0 false), (w.heap.size + 1, H6 0 0 0 0 0 false), (w2.heap.size, H5 x b c d m), (w2.heap.size + 1, H5 p q u v l)] W3 := hW3 ▸ (X2.add (H5 x b c d m) 28 rfl (by omega)).add (H5 p q u v l) 28 (by simp) (by omega)
  have hs3 : Src W3 B := hW3 ▸ (hs2.alloc _).alloc _
  clear hs2 X2
  go_upto_region 2 with fail
  rw [← hW3]
  clear hW3
  generalize hk : w2.heap.size = k at *
  clear hk
  have XD := X3.drew
  have hsD := hs3.drew
  clear X3 hs3
  have f20 : ∀ z, HS w B w.heap.size k (H5 x b c d m) (H5 p q u v l) z → z.cell? ⟨k, 0, none⟩ = some (.int .i64 x) := fun z h => h.cell2 0 rfl
  have f21 : ∀ z, HS w B w.heap.size k (H5 x b c d m) (H5 p q u v l) z → z.cell? ⟨k, 1, none⟩ = some (.int .i64 b) := fun z h => h.cell2 1 rfl
  have f22 : ∀ z, HS w B w.heap.size k (H5 x b c d m) (H5 p q u v l) z → z.cell? ⟨k, 2, none⟩ = some (.int .i64 c) := fun z h => h.cell2 2 rfl
  have f23 : ∀ z, HS w B w.heap.size k (H5 x b c d m) (H5 p q u v l) z → z.cell? ⟨k, 3, none⟩ = some (.int .i64 d) := fun z h => h.cell2 3 rfl
  have f24 : ∀ z, HS w B w.heap.size k (H5 x b c d m) (H5 p q u v l) z → z.cell? ⟨k, 4, none⟩ = some (.int .i64 m) := fun z h => h.cell2 4 rfl
  have f30 : ∀ z, HS w B w.heap.size k (H5 x b c d m) (H5 p q u v l) z → z.cell? ⟨k + 1, 0, none⟩ = some (.int .i64 p) := fun z h => h.cell3 0 rfl
  have f31 : ∀ z, HS w B w.heap.size k (H5 x b c d m) (H5 p q u v l) z → z.cell? ⟨k + 1, 1, none⟩ = some (.int .i64 q) := fun z h => h.cell3 1 rfl
  have f32 : ∀ z, HS w B w.heap.size k (H5 x b c d m) (H5 p q u v l) z → z.cell? ⟨k + 1, 2, none⟩ = some (.int .i64 u) := fun z h => h.cell3 2 rfl
  have f33 : ∀ z, HS w B w.heap.size k (H5 x b c d m) (H5 p q u v l) z → z.cell? ⟨k + 1, 3, none⟩ = some (.int .i64 v) := fun z h => h.cell3 3 rfl
  have f34 : ∀ z, HS w B w.heap.size k (H5 x b c d m) (H5 p q u v l) z → z.cell? ⟨k + 1, 4, none⟩ = some (.int .i64 l) := fun z h => h.cell3 4 rfl
  refine wp_region_held_drew (S := HS w B w.heap.size k (H5 x b c d m) (H5 p q u v l)) (by kernel_rfl) (by (try dsimp only); exact HS.mk XD) (fun hHeld => ?_)
  generalize W3.drew = wd at *
  refine Ord.K 0 11 ?_; refine Ord.K 1 12 ?_; refine Ord.K 5 16 ?_; refine Ord.K 6 17 ?_
  clear f20 f21 f22 f23 f24 f30 f31 f32 f33 f34
  refine wpAnyH_ready (rs := [2]) (by kernel_rfl) (by simp) ?_
  refine AllReadyH.cons rfl (fun K hK => ?_) AllReadyH.nil
  go_simp
  go_at_call 25
  refine (next_pos B _ _ hsD (by omega)).mono ?_
  rintro e w4 ⟨r1, rfl, _, _, hs4, hc⟩
  go_wp2_with fail
  replace XD := XD.step hc
  clear hsD hc
  refine hK.out _ _ (HS.mk XD) (fun hHeld => ?_)
  clear hK K
  (try simp only [Act.put, Ord.a, Ord.b, Ord.c])
  refine Ord.K 3 14 ?_; refine Ord.K 4 15 ?_
  refine wpAnyH_ready (rs := [7]) (by kernel_rfl) (by simp) ?_
  refine AllReadyH.cons rfl (fun K hK => ?_) AllReadyH.nil
  go_simp
  go_at_call 25
  refine (next_pos B _ _ hs4 (by omega)).mono ?_
  rintro e w5 ⟨r2, rfl, _, _, hs5, hc⟩
  go_wp2_with fail
  replace XD := XD.step hc
  clear hs4 hc
  refine hK.out _ _ (HS.mk XD) (fun hHeld => ?_)
  clear hK K
  (try simp only [Act.put, Ord.a, Ord.b, Ord.c])
  refine Ord.K 8 19 ?_; refine Ord.K 9 20 ?_
  obtain ⟨s, hs⟩ : ∃ s, s = (r1 == 0) := ⟨_, rfl⟩
  obtain ⟨t, ht⟩ : ∃ t, t = (r2 == 0) := ⟨_, rfl⟩
  simp only [← hs, ← ht]
  clear hs ht
  obtain ⟨⟨r0, r1, r2, r3, r4, r5⟩, s0, s1, s2, s3, s4, s5⟩ := (XD.box 0 _ rfl).six
  refine wpAnyH_ready (rs := [10]) (by kernel_rfl) (by simp) ?_
  refine AllReadyH.cons rfl (fun K hK => ?_) AllReadyH.nil
  go_simp
  replace XD := put6 XD 0 rfl (.int .i64 x) (.int .i64 b) (.int .i64 c) (.int .i64 d) (.int .i64 m) (.bool s)
  have hs6 := src6 hs5 hB (.int .i64 x) (.int .i64 b) (.int .i64 c) (.int .i64 d) (.int .i64 m) (.bool s)
  refine hK.out _ _ (HS.mk XD) (fun hHeld => ?_)
  clear hK K r0 r1 r2 r3 r4 r5 s0 s1 s2 s3 s4 s5 hs5
  (try simp only [Act.put, Ord.a, Ord.b, Ord.c])
  obtain ⟨⟨r0, r1, r2, r3, r4, r5⟩, s0, s1, s2, s3, s4, s5⟩ := (XD.box 1 _ rfl).six
  refine wpAnyH_ready (rs := [11]) (by kernel_rfl) (by simp) ?_
  refine AllReadyH.cons rfl (fun K hK => ?_) AllReadyH.nil
  go_simp
  replace XD := put6 XD 1 rfl (.int .i64 p) (.int .i64 q) (.int .i64 u) (.int .i64 v) (.int .i64 l) (.bool t)
  have hs7 := src6 hs6 (by omega : B < w.heap.size + 1) (.int .i64 p) (.int .i64 q) (.int .i64 u) (.int .i64 v) (.int .i64 l) (.bool t)
  refine hK.out _ _ (HS.mk XD) (fun hHeld => ?_)
  clear hK K r0 r1 r2 r3 r4 r5 s0 s1 s2 s3 s4 s5 hs6
  (try simp only [Act.put, Ord.a, Ord.b, Ord.c])
  refine wpAnyH_done (by kernel_rfl) ?_ _
  obtain ⟨⟨h0, h1, h2, h3, h4, h5⟩, _⟩ := (XD.box 0 _ rfl).six
  obtain ⟨⟨k0, k1, k2, k3, k4, k5⟩, _⟩ := (XD.box 1 _ rfl).six
  go_wp2
  exact bodyPost_ret (v := .tuple #[Bw x b c d m s, Bw p q u v l t]) (by simp [results, Tryz.results12, go_sem, h0, h1, h2, h3, h4, h5, k0, k1, k2, k3, k4, k5]) rfl ⟨x, b, c, d, m, s, p, q, u, v, l, t, rfl, hs7, XD.chg⟩

/-- The boxes of three results (a wind, two boats) and of what was drawn. -/
def H3 (w : World) (B n k m : Nat) (W A C : List Value) (z : World) : Prop := ∃ p0 p1 x0 x1 x2 x3 x4 x5 y0 y1 y2 y3 y4 y5, BX w B [(n, [p0, p1]), (n + 1, [x0, x1, x2, x3, x4, x5]), (n + 1 + 1, [y0, y1, y2, y3, y4, y5]), (k, W), (m, A), (m + 1, C)] z
theorem H3.mk {w : World} {B n k m : Nat} {W A C : List Value} {z : World} {p0 p1 x0 x1 x2 x3 x4 x5 y0 y1 y2 y3 y4 y5 : Value} (h : BX w B [(n, [p0, p1]), (n + 1, [x0, x1, x2, x3, x4, x5]), (n + 1 + 1, [y0, y1, y2, y3, y4, y5]), (k, W), (m, A), (m + 1, C)] z) : H3 w B n k m W A C z := ⟨_, _, _, _, _, _, _, _, _, _, _, _, _, _, h⟩
theorem H3.cW {w : World} {B n k m : Nat} {W A C : List Value} {x : World} (h : H3 w B n k m W A C x) (j : Nat) {v : Value} (hj : W[j]? = some v) : x.cell? ⟨k, j, none⟩ = some v := by
  obtain ⟨_, _, _, _, _, _, _, _, _, _, _, _, _, _, h⟩ := h
  exact h.cell 3 j rfl hj
theorem H3.cA {w : World} {B n k m : Nat} {W A C : List Value} {x : World} (h : H3 w B n k m W A C x) (j : Nat) {v : Value} (hj : A[j]? = some v) : x.cell? ⟨m, j, none⟩ = some v := by
  obtain ⟨_, _, _, _, _, _, _, _, _, _, _, _, _, _, h⟩ := h
  exact h.cell 4 j rfl hj
theorem H3.cC {w : World} {B n k m : Nat} {W A C : List Value} {x : World} (h : H3 w B n k m W A C x) (j : Nat) {v : Value} (hj : C[j]? = some v) : x.cell? ⟨m + 1, j, none⟩ = some v := by
  obtain ⟨_, _, _, _, _, _, _, _, _, _, _, _, _, _, h⟩ := h
  exact h.cell 5 j rfl hj
/-- A wind and two boats come out. -/
def WdBo2 (w : World) (e : Ending) (w' : World) : Prop := ∃ (x y a b c d n : Int) (s : Bool) (p q u v m : Int) (t : Bool), e = .returned (.tuple #[Pt x y, Bw a b c d n s, Bw p q u v m t]) ∧ Ext w w'

set_option maxRecDepth 100000 in
set_option maxHeartbeats 4000000 in
theorem drawRuleOn_any (a0 : Option Addr) (len cap : Nat) (w : World) (hb : Bytes w a0 len) (hl : len ≤ 100000) : Calls Tryz.prog 5 #[.slice a0 len cap] w (WdBo2 w) := by
  have HB := Lib.hid hb
  clear hb
  obtain ⟨W0, hW0⟩ : ∃ W0, W0 = ((w.alloc (.cells #[.int .i64 0, .int .i64 0] 25)).alloc (.cells #[.int .i64 0, .int .i64 0, .int .i64 0, .int .i64 0, .int .i64 0, .bool false] 30)).alloc (.cells #[.int .i64 0, .int .i64 0, .int .i64 0, .int .i64 0, .int .i64 0, .bool false] 30) := ⟨_, rfl⟩
  have hX : Ext w W0 := hW0 ▸ (((Ext.refl w).alloc _).alloc _).alloc _
  have Y0 : ∀ B, w.heap.size + 1 + 1 < B → BX w B [(w.heap.size, [.int .i64 0, .int .i64 0]), (w.heap.size + 1, H6 0 0 0 0 0 false), (w.heap.size + 1 + 1, H6 0 0 0 0 0 false)] W0 := fun B hB => hW0 ▸ (((BX.nil w B).add [.int .i64 0, .int .i64 0] 25 rfl (by omega)).add (H6 0 0 0 0 0 false) 30 (by simp) (by omega)).add (H6 0 0 0 0 0 false) 30 (by simp) (by omega)
  have zW : W0.heap.size = w.heap.size + 1 + 1 + 1 := by rw [hW0]; simp
  go_enter Tryz.func5, Tryz.ntmps5
  go_wp2_with fail
  rw [← hW0]
  clear hW0
  refine (from_any a0 len cap _ (HB.out.ext hX) hl).mono ?_
  rintro e w1 ⟨B, rfl, hB, hs1, hy⟩
  have X1 := (Y0 B (by omega)).ext hy
  clear hy hX Y0
  go_wp2_with fail
  refine (drawWindAny_any B _ hs1).mono ?_
  rintro e w2 ⟨x, y, rfl, hs2, hc⟩
  have X2 := X1.step hc
  clear hc hs1 X1
  have hB2 := hs2.lt
  obtain ⟨W3, hW3⟩ : ∃ W3, W3 = w2.alloc (.cells #[.int .i64 x, .int .i64 y] 25) := ⟨_, rfl⟩
  have X3 : BX w B [(w.heap.size, [.int .i64 0, .int .i64 0]), (w.heap.size + 1, H6 0 0 0 0 0 false), (w.heap.size + 1 + 1, H6 0 0 0 0 0 false), (w2.heap.size, [.int .i64 x, .int .i64 y])] W3 := hW3 ▸ X2.add [.int .i64 x, .int .i64 y] 25 rfl (by omega)
  have hs3 : Src W3 B := hW3 ▸ hs2.alloc _
  clear hs2 X2
  go_upto_region 3 with fail
  rw [← hW3]
  clear hW3
  generalize hk : w2.heap.size = k at *
  clear hk
  go_wp2_with fail
  refine (drawBoats_any B _ hs3).mono ?_
  rintro e w4 ⟨a, b, c, d, n, s, p, q, u, v, l, t, rfl, hs4, hc⟩
  have X4 := X3.step hc
  clear hc hs3 X3
  have hB4 := hs4.lt
  obtain ⟨W5, hW5⟩ : ∃ W5, W5 = (w4.alloc (.cells #[.int .i64 a, .int .i64 b, .int .i64 c, .int .i64 d, .int .i64 n, .bool s] 30)).alloc (.cells #[.int .i64 p, .int .i64 q, .int .i64 u, .int .i64 v, .int .i64 l, .bool t] 30) := ⟨_, rfl⟩
  have X5 : BX w B [(w.heap.size, [.int .i64 0, .int .i64 0]), (w.heap.size + 1, H6 0 0 0 0 0 false), (w.heap.size + 1 + 1, H6 0 0 0 0 0 false), (k, [.int .i64 x, .int .i64 y]), (w4.heap.size, H6 a b c d n s), (w4.heap.size + 1, H6 p q u v l t)] W5 := hW5 ▸ (X4.add (H6 a b c d n s) 30 rfl (by omega)).add (H6 p q u v l t) 30 (by simp) (by omega)
  clear hs4 X4
  go_upto_region 4 with fail
  rw [← hW5]
  clear hW5
  generalize hm : w4.heap.size = m at *
  clear hm
  have XD := X5.drew
  clear X5
  have f0 : ∀ z, H3 w B w.heap.size k m [.int .i64 x, .int .i64 y] (H6 a b c d n s) (H6 p q u v l t) z → z.cell? ⟨k, 0, none⟩ = some (.int .i64 x) := fun z h => h.cW 0 rfl
  have f1 : ∀ z, H3 w B w.heap.size k m [.int .i64 x, .int .i64 y] (H6 a b c d n s) (H6 p q u v l t) z → z.cell? ⟨k, 1, none⟩ = some (.int .i64 y) := fun z h => h.cW 1 rfl
  have f20 : ∀ z, H3 w B w.heap.size k m [.int .i64 x, .int .i64 y] (H6 a b c d n s) (H6 p q u v l t) z → z.cell? ⟨m, 0, none⟩ = some (.int .i64 a) := fun z h => h.cA 0 rfl
  have f21 : ∀ z, H3 w B w.heap.size k m [.int .i64 x, .int .i64 y] (H6 a b c d n s) (H6 p q u v l t) z → z.cell? ⟨m, 1, none⟩ = some (.int .i64 b) := fun z h => h.cA 1 rfl
  have f22 : ∀ z, H3 w B w.heap.size k m [.int .i64 x, .int .i64 y] (H6 a b c d n s) (H6 p q u v l t) z → z.cell? ⟨m, 2, none⟩ = some (.int .i64 c) := fun z h => h.cA 2 rfl
  have f23 : ∀ z, H3 w B w.heap.size k m [.int .i64 x, .int .i64 y] (H6 a b c d n s) (H6 p q u v l t) z → z.cell? ⟨m, 3, none⟩ = some (.int .i64 d) := fun z h => h.cA 3 rfl
  have f24 : ∀ z, H3 w B w.heap.size k m [.int .i64 x, .int .i64 y] (H6 a b c d n s) (H6 p q u v l t) z → z.cell? ⟨m, 4, none⟩ = some (.int .i64 n) := fun z h => h.cA 4 rfl
  have f25 : ∀ z, H3 w B w.heap.size k m [.int .i64 x, .int .i64 y] (H6 a b c d n s) (H6 p q u v l t) z → z.cell? ⟨m, 5, none⟩ = some (.bool s) := fun z h => h.cA 5 rfl
  have f30 : ∀ z, H3 w B w.heap.size k m [.int .i64 x, .int .i64 y] (H6 a b c d n s) (H6 p q u v l t) z → z.cell? ⟨m + 1, 0, none⟩ = some (.int .i64 p) := fun z h => h.cC 0 rfl
  have f31 : ∀ z, H3 w B w.heap.size k m [.int .i64 x, .int .i64 y] (H6 a b c d n s) (H6 p q u v l t) z → z.cell? ⟨m + 1, 1, none⟩ = some (.int .i64 q) := fun z h => h.cC 1 rfl
  have f32 : ∀ z, H3 w B w.heap.size k m [.int .i64 x, .int .i64 y] (H6 a b c d n s) (H6 p q u v l t) z → z.cell? ⟨m + 1, 2, none⟩ = some (.int .i64 u) := fun z h => h.cC 2 rfl
  have f33 : ∀ z, H3 w B w.heap.size k m [.int .i64 x, .int .i64 y] (H6 a b c d n s) (H6 p q u v l t) z → z.cell? ⟨m + 1, 3, none⟩ = some (.int .i64 v) := fun z h => h.cC 3 rfl
  have f34 : ∀ z, H3 w B w.heap.size k m [.int .i64 x, .int .i64 y] (H6 a b c d n s) (H6 p q u v l t) z → z.cell? ⟨m + 1, 4, none⟩ = some (.int .i64 l) := fun z h => h.cC 4 rfl
  have f35 : ∀ z, H3 w B w.heap.size k m [.int .i64 x, .int .i64 y] (H6 a b c d n s) (H6 p q u v l t) z → z.cell? ⟨m + 1, 5, none⟩ = some (.bool t) := fun z h => h.cC 5 rfl
  refine wp_region_held_drew (S := H3 w B w.heap.size k m [.int .i64 x, .int .i64 y] (H6 a b c d n s) (H6 p q u v l t)) (by kernel_rfl) (by (try dsimp only); exact H3.mk XD) (fun hHeld => ?_)
  generalize W5.drew = wd at *
  refine Ord.K 0 18 ?_; refine Ord.K 1 19 ?_; refine Ord.K 2 20 ?_
  clear f0 f1 f20 f21 f22 f23 f24 f25 f30 f31 f32 f33 f34 f35
  obtain ⟨⟨r0, r1⟩, r2, r3⟩ := (XD.box 0 _ rfl).two
  refine wpAnyH_ready (rs := [3]) (by kernel_rfl) (by simp) ?_
  refine AllReadyH.cons rfl (fun K hK => ?_) AllReadyH.nil
  go_simp
  replace XD := (XD.put 0 0 rfl (by simp) (.int .i64 x)).put 0 1 rfl (by simp) (.int .i64 y)
  refine hK.out _ _ (H3.mk XD) (fun hHeld => ?_)
  clear hK K r0 r1 r2 r3
  (try simp only [Act.put, Ord.a, Ord.b, Ord.c])
  obtain ⟨⟨r0, r1, r2, r3, r4, r5⟩, s0, s1, s2, s3, s4, s5⟩ := (XD.box 1 _ rfl).six
  refine wpAnyH_ready (rs := [4]) (by kernel_rfl) (by simp) ?_
  refine AllReadyH.cons rfl (fun K hK => ?_) AllReadyH.nil
  go_simp
  replace XD := put6 XD 1 rfl (.int .i64 a) (.int .i64 b) (.int .i64 c) (.int .i64 d) (.int .i64 n) (.bool s)
  refine hK.out _ _ (H3.mk XD) (fun hHeld => ?_)
  clear hK K r0 r1 r2 r3 r4 r5 s0 s1 s2 s3 s4 s5
  (try simp only [Act.put, Ord.a, Ord.b, Ord.c])
  obtain ⟨⟨r0, r1, r2, r3, r4, r5⟩, s0, s1, s2, s3, s4, s5⟩ := (XD.box 2 _ rfl).six
  refine wpAnyH_ready (rs := [5]) (by kernel_rfl) (by simp) ?_
  refine AllReadyH.cons rfl (fun K hK => ?_) AllReadyH.nil
  go_simp
  replace XD := put6 XD 2 rfl (.int .i64 p) (.int .i64 q) (.int .i64 u) (.int .i64 v) (.int .i64 l) (.bool t)
  refine hK.out _ _ (H3.mk XD) (fun hHeld => ?_)
  clear hK K r0 r1 r2 r3 r4 r5 s0 s1 s2 s3 s4 s5
  (try simp only [Act.put, Ord.a, Ord.b, Ord.c])
  refine wpAnyH_done (by kernel_rfl) ?_ _
  have XE := XD.to (Ext.refl w) (by omega)
  obtain ⟨⟨g0, g1⟩, _⟩ := (XD.box 0 _ rfl).two
  obtain ⟨⟨h0, h1, h2, h3, h4, h5⟩, _⟩ := (XD.box 1 _ rfl).six
  obtain ⟨⟨k0, k1, k2, k3, k4, k5⟩, _⟩ := (XD.box 2 _ rfl).six
  go_wp2
  exact bodyPost_ret (v := .tuple #[Pt x y, Bw a b c d n s, Bw p q u v l t]) (by simp [results, Tryz.results5, go_sem, g0, g1, h0, h1, h2, h3, h4, h5, k0, k1, k2, k3, k4, k5]) rfl ⟨x, y, a, b, c, d, n, s, p, q, u, v, l, t, rfl, XE⟩

end Go.Proofs.YtlheppblioglpaaGreatDoor.Draw

/- The contract of laws.big: is a code longer than 4096 bytes? -/
namespace Go.Proofs.YtlheppblioglpaaGreatDoor.Draw
open Go.ChangeShapes Go.WideShapes Go.ChangeAt Go.RowKit
open Go.Proofs.YtlheppblioglpaaGreatDoor.Kit Go.Proofs.YtlheppblioglpaaGreatDoor.Num
set_option linter.unusedVariables false

def bigB (len : Nat) : Bool := decide (4096 < len)

theorem big_any (a : Option Addr) (len cap : Nat) (w : World) : Calls Tryz.prog 4 #[.slice a len cap] w fun e w' => e = .returned (.bool (bigB len)) ∧ w = w' := by
  have H := Lib.hid (show bigB len = decide (4096 < (len : Int)) by unfold bigB; rw [decide_eq_decide]; omega)
  go_enter Tryz.func4, Tryz.ntmps4
  go_wp2
  go_ret
  exact ⟨ret_bool H.out, rfl⟩

end Go.Proofs.YtlheppblioglpaaGreatDoor.Draw

/- FnRule: for every code, the ruling of the drawn boats is the reference model's; it does not depend on their order, and its text is read back. No condition but the tied variables of the card. -/
namespace Go.Proofs.YtlheppblioglpaaGreatDoor.fnRule
open Go.ChangeShapes Go.WideShapes Go.ChangeAt Go.RowKit
open Go.ChangeMaps (open_string shut_string)
open Go.Proofs.YtlheppblioglpaaGreatDoor.Kit Go.Proofs.YtlheppblioglpaaGreatDoor.Num Go.Proofs.YtlheppblioglpaaGreatDoor.Txt Go.Proofs.YtlheppblioglpaaGreatDoor.Draw Go.Proofs.YtlheppblioglpaaGreatDoor.Pts Go.Proofs.YtlheppblioglpaaGreatDoor.Hul Go.Proofs.YtlheppblioglpaaGreatDoor.Wnd Go.Proofs.YtlheppblioglpaaGreatDoor.Rul Go.Proofs.YtlheppblioglpaaGreatDoor.Rtx Go.Proofs.YtlheppblioglpaaGreatDoor.RulT
set_option linter.unusedVariables false
set_option linter.unusedSimpArgs false

theorem tk3 (c : Int) : tkN c = 0 ∨ tkN c = 1 ∨ tkN c = 2 := by
  unfold tkN
  split
  · exact .inr (.inl rfl)
  · split
    · exact .inr (.inr rfl)
    · exact .inl rfl
/-- Two keepers that fit when the boats are exchanged. -/
def KK (k l : Int) : Prop := (k = 0 ∧ l = 0) ∨ (k = 1 ∧ l = 2) ∨ (k = 2 ∧ l = 1)
theorem ww_kk (a b : Int) : KK (wwN a b) (wwN b a) := by
  unfold KK wwN
  split <;> split <;> omega
theorem rl_kk (s t : Bool) (i j a b : Int) (p q : Bool) (hi : i = 0 ∨ i = 1 ∨ i = 2) (hj : j = 0 ∨ j = 1 ∨ j = 2) :
    KK (rlK s t i j (ovN p q) (wwN a b)) (rlK t s j i (ovN q p) (wwN b a)) ∧ rlR t s j i (ovN q p) (wwN b a) = rlR s t i j (ovN p q) (wwN a b) := by
  have hw := ww_kk a b
  generalize wwN a b = k at *
  generalize wwN b a = l at *
  unfold KK at *
  rcases hi with rfl | rfl | rfl <;> rcases hj with rfl | rfl | rfl <;> rcases hw with ⟨rfl, rfl⟩ | ⟨rfl, rfl⟩ | ⟨rfl, rfl⟩ <;> revert s t p q <;> decide
theorem kk_rv {s t : Bool} {i j o k : Int} (hk : k = 0 ∨ k = 1 ∨ k = 2) : rvB (rlK s t i j o k) (rlR s t i j o k) = true := by
  by_cases h : rlK s t i j o k = 0
  · rw [rlR_zero h, h]; decide
  · have h1 := rlK_cases (s := s) (t := t) (i := i) (j := j) (o := o) hk
    have h2 := rlR_cases h
    rcases h1 with h1 | h1 | h1
    · exact absurd h1 h
    all_goals
      rw [h1]
      rcases h2 with h2 | h2 | h2 | h2 <;> rw [h2] <;> decide
/-- Exchanged boats, and the ruling is one. -/
theorem ro_facts (x y a b c d n : Int) (s : Bool) (p q u v m : Int) (t : Bool) :
    wwC x y a b c d n p q u v m = 1 ∨ (wwC x y a b c d n p q u v m = 0 ∧ wwC x y p q u v m a b c d n = 0 ∧ rvB (roK x y a b c d n s p q u v m t) (roR x y a b c d n s p q u v m t) = true ∧
      roR x y p q u v m t a b c d n s = roR x y a b c d n s p q u v m t ∧ KK (roK x y a b c d n s p q u v m t) (roK x y p q u v m t a b c d n s)) := by
  cases hB : wwB x y a b c d n p q u v m
  · exact .inl (by unfold wwC; rw [hB]; rfl)
  · have hB2 : wwB x y p q u v m a b c d n = true := by
      unfold wwB h2B at hB ⊢
      rw [Bool.and_comm (hlB p q u v m)]
      exact hB
    have e1 : roK x y a b c d n s p q u v m t = ruK x y a b c d n s p q u v m t := if_pos hB
    have e2 : roR x y a b c d n s p q u v m t = ruR x y a b c d n s p q u v m t := if_pos hB
    have e3 : roK x y p q u v m t a b c d n s = ruK x y p q u v m t a b c d n s := if_pos hB2
    have e4 : roR x y p q u v m t a b c d n s = ruR x y p q u v m t a b c d n s := if_pos hB2
    obtain ⟨k1, k2⟩ := rl_kk s t (tkN (c * y - d * x)) (tkN (u * y - v * x)) (a * x + b * y) (p * x + q * y) (caB a b c d n p q) (caB p q u v m a b) (tk3 _) (tk3 _)
    refine .inr ⟨if_pos hB, if_pos hB2, ?_, ?_, ?_⟩
    · rw [e1, e2]; exact kk_rv (wwN_cases _ _)
    · rw [e2, e4]; exact k2
    · rw [e1, e3]; exact k1
theorem rt_small (k r : Int) : (rtT k r).length ≤ 2000000 := by
  cases h : rvB k r
  · rw [rt_no h]; decide
  · rw [rt_yes h]
    have := rw_len r
    simp only [List.length_cons]
    omega

set_option maxRecDepth 100000 in
set_option maxHeartbeats 8000000 in
theorem walk (f : Option Addr) (len cap : Nat) (zs : List Int) (w : World) (hr : IsRow .u8 w f len cap zs) (hE : Env w) :
    Calls Tryz.prog 3 #[.slice f len cap] w fun e w' => e = .returned (.bool true) ∧ Ext w w' := by
  have HB := Lib.hid hr.bytes
  have HE := Lib.hid hE
  clear hr hE
  by_cases hl : 4096 < len
  · have g := show bigB len = true from decide_eq_true hl
    go_enter Tryz.func3, Tryz.ntmps3
    go_wp2_with (go_at_call 4; refine (big_any _ _ _ _).mono ?_; rintro e w' ⟨rfl, rfl⟩)
    go_ret
    exact ⟨rfl, Ext.refl _⟩
  have g := show bigB len = false from decide_eq_false hl
  go_enter Tryz.func3, Tryz.ntmps3
  go_wp2_with fail
  refine (big_any _ _ _ _).mono ?_
  rintro e w' ⟨rfl, rfl⟩
  go_wp2_with fail
  refine (drawRuleOn_any f len cap _ HB.out (by omega)).mono ?_
  rintro e w1 ⟨x, y, a, b, c, d, n, s, p, q, u, v, m, t, rfl, hx⟩
  obtain ⟨W2, hW2⟩ : ∃ W2, W2 = ((w1.alloc (.cells #[.int .i64 x, .int .i64 y] 25)).alloc (.cells #[.int .i64 a, .int .i64 b, .int .i64 c, .int .i64 d, .int .i64 n, .bool s] 30)).alloc (.cells #[.int .i64 p, .int .i64 q, .int .i64 u, .int .i64 v, .int .i64 m, .bool t] 30) := ⟨_, rfl⟩
  have X2 : Ext w1 W2 := hW2 ▸ (((Ext.refl w1).alloc _).alloc _).alloc _
  have X := Lib.hid (hx.trans X2)

  have ep0 : ∀ w', Ext W2 w' → w'.cell? ⟨w1.heap.size, 0, none⟩ = some (.int .i64 x) := fun w' h => h.cellOf (hW2 ▸ (((Ext.refl _).alloc _).alloc _).cellOf (boxed 0 rfl rfl))
  have ep1 : ∀ w', Ext W2 w' → w'.cell? ⟨w1.heap.size, 1, none⟩ = some (.int .i64 y) := fun w' h => h.cellOf (hW2 ▸ (((Ext.refl _).alloc _).alloc _).cellOf (boxed 1 rfl rfl))
  have ep2 : ∀ w', Ext W2 w' → w'.cell? ⟨w1.heap.size + 1, 0, none⟩ = some (.int .i64 a) := fun w' h => h.cellOf (hW2 ▸ ((Ext.refl _).alloc _).cellOf (boxed 0 rfl (by simp)))
  have ep3 : ∀ w', Ext W2 w' → w'.cell? ⟨w1.heap.size + 1, 1, none⟩ = some (.int .i64 b) := fun w' h => h.cellOf (hW2 ▸ ((Ext.refl _).alloc _).cellOf (boxed 1 rfl (by simp)))
  have ep4 : ∀ w', Ext W2 w' → w'.cell? ⟨w1.heap.size + 1, 2, none⟩ = some (.int .i64 c) := fun w' h => h.cellOf (hW2 ▸ ((Ext.refl _).alloc _).cellOf (boxed 2 rfl (by simp)))
  have ep5 : ∀ w', Ext W2 w' → w'.cell? ⟨w1.heap.size + 1, 3, none⟩ = some (.int .i64 d) := fun w' h => h.cellOf (hW2 ▸ ((Ext.refl _).alloc _).cellOf (boxed 3 rfl (by simp)))
  have ep6 : ∀ w', Ext W2 w' → w'.cell? ⟨w1.heap.size + 1, 4, none⟩ = some (.int .i64 n) := fun w' h => h.cellOf (hW2 ▸ ((Ext.refl _).alloc _).cellOf (boxed 4 rfl (by simp)))
  have ep7 : ∀ w', Ext W2 w' → w'.cell? ⟨w1.heap.size + 1, 5, none⟩ = some (.bool s) := fun w' h => h.cellOf (hW2 ▸ ((Ext.refl _).alloc _).cellOf (boxed 5 rfl (by simp)))
  have ep8 : ∀ w', Ext W2 w' → w'.cell? ⟨w1.heap.size + 1 + 1, 0, none⟩ = some (.int .i64 p) := fun w' h => h.cellOf (hW2 ▸ boxed 0 rfl (by simp))
  have ep9 : ∀ w', Ext W2 w' → w'.cell? ⟨w1.heap.size + 1 + 1, 1, none⟩ = some (.int .i64 q) := fun w' h => h.cellOf (hW2 ▸ boxed 1 rfl (by simp))
  have ep10 : ∀ w', Ext W2 w' → w'.cell? ⟨w1.heap.size + 1 + 1, 2, none⟩ = some (.int .i64 u) := fun w' h => h.cellOf (hW2 ▸ boxed 2 rfl (by simp))
  have ep11 : ∀ w', Ext W2 w' → w'.cell? ⟨w1.heap.size + 1 + 1, 3, none⟩ = some (.int .i64 v) := fun w' h => h.cellOf (hW2 ▸ boxed 3 rfl (by simp))
  have ep12 : ∀ w', Ext W2 w' → w'.cell? ⟨w1.heap.size + 1 + 1, 4, none⟩ = some (.int .i64 m) := fun w' h => h.cellOf (hW2 ▸ boxed 4 rfl (by simp))
  have ep13 : ∀ w', Ext W2 w' → w'.cell? ⟨w1.heap.size + 1 + 1, 5, none⟩ = some (.bool t) := fun w' h => h.cellOf (hW2 ▸ boxed 5 rfl (by simp))
  have HE2 := Lib.hid (HE.out.ext X.out)
  go_upto_region 4 with fail
  rw [← hW2]
  clear hW2 X2 hx
  have KI := Lib.hid (fun w => ruleOn_impl x y a b c d n s p q u v m t w)
  have KS := Lib.hid (fun w => ruleOn_spec x y a b c d n s p q u v m t w)
  have KX := Lib.hid (fun w => ruleOn_impl x y p q u v m t a b c d n s w)
  have HF := Lib.hid (ro_facts x y a b c d n s p q u v m t)
  generalize roK x y a b c d n s p q u v m t = K at *
  generalize roR x y a b c d n s p q u v m t = R at *
  generalize roK x y p q u v m t a b c d n s = K2 at *
  generalize roR x y p q u v m t a b c d n s = R2 at *
  generalize wwC x y a b c d n p q u v m = G at *
  generalize wwC x y p q u v m a b c d n = G2 at *
  have p0 := ep0 _ (Ext.refl _)
  have p1 := ep1 _ (Ext.refl _)
  have p2 := ep2 _ (Ext.refl _)
  have p3 := ep3 _ (Ext.refl _)
  have p4 := ep4 _ (Ext.refl _)
  have p5 := ep5 _ (Ext.refl _)
  have p6 := ep6 _ (Ext.refl _)
  have p7 := ep7 _ (Ext.refl _)
  have p8 := ep8 _ (Ext.refl _)
  have p9 := ep9 _ (Ext.refl _)
  have p10 := ep10 _ (Ext.refl _)
  have p11 := ep11 _ (Ext.refl _)
  have p12 := ep12 _ (Ext.refl _)
  have p13 := ep13 _ (Ext.refl _)
  go_wp2_with fail
  refine (KI.out _).mono ?_
  rintro e w3 ⟨rfl, hy⟩
  obtain ⟨W3, hW3⟩ : ∃ W3, W3 = w3.alloc (.cells #[.int .i64 K, .int .i64 R] 34) := ⟨_, rfl⟩
  have X3 : Ext W2 W3 := hW3 ▸ hy.alloc _
  have P3 := Lib.hid (show Kit.Box W3 w3.heap.size [.int .i64 K, .int .i64 R] from hW3 ▸ Kit.Box.new2 rfl)
  go_upto_region 5 with fail
  rw [← hW3]
  clear hW3 hy
  generalize w3.heap.size = h3 at *
  clear p0 p1 p2 p3 p4 p5 p6 p7 p8 p9 p10 p11 p12 p13
  have p0 := ep0 _ X3
  have p1 := ep1 _ X3
  have p2 := ep2 _ X3
  have p3 := ep3 _ X3
  have p4 := ep4 _ X3
  have p5 := ep5 _ X3
  have p6 := ep6 _ X3
  have p7 := ep7 _ X3
  have p8 := ep8 _ X3
  have p9 := ep9 _ X3
  have p10 := ep10 _ X3
  have p11 := ep11 _ X3
  have p12 := ep12 _ X3
  have p13 := ep13 _ X3
  go_wp2_with fail
  refine (KS.out _).mono ?_
  rintro e w4 ⟨rfl, hy⟩
  obtain ⟨W4, hW4⟩ : ∃ W4, W4 = w4.alloc (.cells #[.int .i64 K, .int .i64 R] 34) := ⟨_, rfl⟩
  have X4 : Ext W3 W4 := hW4 ▸ hy.alloc _
  have P4 := Lib.hid (show Kit.Box W4 w4.heap.size [.int .i64 K, .int .i64 R] from hW4 ▸ Kit.Box.new2 rfl)
  replace P3 := Lib.hid (P3.out.ext X4)
  go_upto_region 6 with fail
  rw [← hW4]
  clear hW4 hy
  generalize w4.heap.size = h4 at *
  clear p0 p1 p2 p3 p4 p5 p6 p7 p8 p9 p10 p11 p12 p13
  have X24 := X3.trans X4
  obtain ⟨⟨c0, c1⟩, _⟩ := P3.out.two
  obtain ⟨⟨d0, d1⟩, _⟩ := P4.out.two
  rcases HF.out with rfl | ⟨rfl, rfl, hv, rfl, hkk⟩
  · go_wp2
    go_ret
    exact ⟨rfl, X.out.trans X24⟩
  have HKK := Lib.hid hkk
  have KT := Lib.hid (fun (w : World) (h : Tab w) => rulingText_impl K R2 w h)
  have KR := Lib.hid (fun (w : World) (h : Env w) => readRuling_impl (rtT K R2) w h (rt_small K R2))
  obtain ⟨f1, f2, f3⟩ := rd_yes (rd_some hv rfl)
  rw [f1, f2, f3] at KR
  clear f1 f2 f3 hv hkk HF
  generalize rtT K R2 = L at *
  have p0 := ep0 _ X24
  have p1 := ep1 _ X24
  have p2 := ep2 _ X24
  have p3 := ep3 _ X24
  have p4 := ep4 _ X24
  have p5 := ep5 _ X24
  have p6 := ep6 _ X24
  have p7 := ep7 _ X24
  have p8 := ep8 _ X24
  have p9 := ep9 _ X24
  have p10 := ep10 _ X24
  have p11 := ep11 _ X24
  have p12 := ep12 _ X24
  have p13 := ep13 _ X24
  clear c0 c1 d0 d1
  obtain ⟨⟨c0, c1⟩, _⟩ := P3.out.two
  obtain ⟨⟨d0, d1⟩, _⟩ := P4.out.two
  go_wp2_with fail
  refine (KX.out _).mono ?_
  rintro e w5 ⟨rfl, hy⟩
  obtain ⟨W5, hW5⟩ : ∃ W5, W5 = w5.alloc (.cells #[.int .i64 K2, .int .i64 R2] 34) := ⟨_, rfl⟩
  have X5 : Ext W4 W5 := hW5 ▸ hy.alloc _
  have P5 := Lib.hid (show Kit.Box W5 w5.heap.size [.int .i64 K2, .int .i64 R2] from hW5 ▸ Kit.Box.new2 rfl)
  replace P3 := Lib.hid (P3.out.ext X5)
  go_upto_region 11 with fail
  rw [← hW5]
  clear hW5 hy c0 c1 d0 d1 P4
  generalize w5.heap.size = h5 at *
  clear p0 p1 p2 p3 p4 p5 p6 p7 p8 p9 p10 p11 p12 p13
  clear ep0 ep1 ep2 ep3 ep4 ep5 ep6 ep7 ep8 ep9 ep10 ep11 ep12 ep13
  have X25 := X24.trans X5
  have HE5 := Lib.hid (HE2.out.ext X25)
  obtain ⟨⟨c0, c1⟩, _⟩ := P3.out.two
  go_wp2_with fail
  refine (KT.out _ HE5.out.1).mono ?_
  rintro e w6 ⟨rfl, hy⟩
  replace P3 := Lib.hid (P3.out.ext hy)
  replace P5 := Lib.hid (P5.out.ext hy)
  replace HE5 := Lib.hid (HE5.out.ext hy)
  replace X25 := X25.trans hy
  clear hy c0 c1
  go_wp2_with fail
  refine (KR.out _ HE5.out).mono ?_
  rintro e w7 ⟨rfl, hy⟩
  obtain ⟨W7, hW7⟩ : ∃ W7, W7 = w7.alloc (.cells #[.int .i64 K, .int .i64 R2] 34) := ⟨_, rfl⟩
  have X7 : Ext w6 W7 := hW7 ▸ hy.alloc _
  have P7 := Lib.hid (show Kit.Box W7 w7.heap.size [.int .i64 K, .int .i64 R2] from hW7 ▸ Kit.Box.new2 rfl)
  replace P3 := Lib.hid (P3.out.ext X7)
  replace P5 := Lib.hid (P5.out.ext X7)
  go_upto_region 12 with fail
  rw [← hW7]
  clear hW7 hy
  generalize w7.heap.size = h7 at *
  obtain ⟨⟨c0, c1⟩, _⟩ := P3.out.two
  obtain ⟨⟨d0, d1⟩, _⟩ := P5.out.two
  obtain ⟨⟨b0, b1⟩, _⟩ := P7.out.two
  rcases HKK.out with ⟨rfl, rfl⟩ | ⟨rfl, rfl⟩ | ⟨rfl, rfl⟩
  all_goals
    go_wp2
    go_ret
    exact ⟨rfl, X.out.trans (X25.trans X7)⟩

end Go.Proofs.YtlheppblioglpaaGreatDoor.fnRule
