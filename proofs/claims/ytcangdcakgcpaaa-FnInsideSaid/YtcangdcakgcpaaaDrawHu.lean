/- Draws of hulls (chapter 9). -/
import Derived.Test.YtcangdcakgcpaaaDrawWd
import Derived.Test.YtcangdcakgcpaaaBxs
import Derived.Test.YtcangdcakgcpaaaHul
import Derived.Test.YtcangdcakgcpaaaOrd
namespace Go.Proofs.Ytcangdcakgcpaaa.Draw
open Go.ChangeShapes Go.WideShapes Go.ChangeAt Go.RowKit
open Go.Proofs.Ytcangdcakgcpaaa.Num Go.Proofs.Ytcangdcakgcpaaa.Kit Go.Proofs.Ytcangdcakgcpaaa.Pts Go.Proofs.Ytcangdcakgcpaaa.Hul
set_option linter.unusedVariables false
set_option linter.unusedSimpArgs false

/-- A hull comes out; two hulls. -/
def AHu (B : Nat) (w : World) (e : Ending) (w' : World) : Prop := ∃ a b c d n : Int, e = .returned (Hv a b c d n) ∧ Src w' B ∧ Chg B w w'
def AHu2 (B : Nat) (w : World) (e : Ending) (w' : World) : Prop := ∃ a b c d n p q u v m : Int, e = .returned (.tuple #[Hv a b c d n, Hv p q u v m]) ∧ Src w' B ∧ Chg B w w'
abbrev H5 (a b c d n : Int) : List Value := [.int .i64 a, .int .i64 b, .int .i64 c, .int .i64 d, .int .i64 n]
theorem hu_done {B n : Nat} {w F : World} {tmps : Array Value} {a b c d k : Int} (p : Box F n (H5 a b c d k)) (h2 : tmps[2]? = some (.pointer (some ⟨n, 0, none⟩))) (hs : Src F B) (hC : Chg B w F) :
    bodyPost Try.prog Try.f101 (AHu B w) Exit.ret ⟨tmps, []⟩ F := by
  obtain ⟨⟨g0, g1, g2, g3, g4⟩, _⟩ := p.five
  exact bodyPost_ret (v := Hv a b c d k) (by simp [results, Try.results101, go_sem, h2, g0, g1, g2, g3, g4]) rfl ⟨a, b, c, d, k, rfl, hs, hC⟩
theorem src5 {W : World} {B n : Nat} (h : Src W B) (hn : B < n) (a b c d e : Value) : Src (((((W.setCell ⟨n, 0, none⟩ a).setCell ⟨n, 1, none⟩ b).setCell ⟨n, 2, none⟩ c).setCell ⟨n, 3, none⟩ d).setCell ⟨n, 4, none⟩ e) B :=
  ((((h.setCell hn _).setCell hn _).setCell hn _).setCell hn _).setCell hn _
theorem put5 {w : World} {B : Nat} {L : List (Nat × List Value)} {u : World} (h : BX w B L u) (i : Nat) {n : Nat} {x y z s t : Value} (hi : L[i]? = some (n, [x, y, z, s, t])) (a b c d e : Value) :
    BX w B (L.set i (n, [a, b, c, d, e])) (((((u.setCell ⟨n, 0, none⟩ a).setCell ⟨n, 1, none⟩ b).setCell ⟨n, 2, none⟩ c).setCell ⟨n, 3, none⟩ d).setCell ⟨n, 4, none⟩ e) := by
  have hl := (List.getElem?_eq_some_iff.1 hi).1
  have g : ∀ (q : Nat × List Value), (L.set i q)[i]? = some q := fun q => by rw [List.getElem?_set, if_pos rfl, if_pos hl]
  have h1 := h.put i 0 hi (by simp) a
  have h2 := h1.put i 1 (g _) (by simp) b
  have h3 := h2.put i 2 (by rw [List.set_set]; exact g _) (by simp) c
  have h4 := h3.put i 3 (by rw [List.set_set, List.set_set]; exact g _) (by simp) d
  have h5 := h4.put i 4 (by rw [List.set_set, List.set_set, List.set_set]; exact g _) (by simp) e
  simp only [List.set_set] at h5
  exact h5

set_option maxHeartbeats 4000000 in
theorem drawHull_any (B : Nat) (w : World) (hs : Src w B) : Calls Try.prog 101 #[.pointer (some ⟨B, 0, none⟩)] w (AHu B w) := by
  have hB := hs.lt
  have X0 : BX w B [(w.heap.size, H5 0 0 0 0 0)] (w.alloc (.cells #[.int .i64 0, .int .i64 0, .int .i64 0, .int .i64 0, .int .i64 0] 39)) := (BX.nil w B).add (H5 0 0 0 0 0) 39 rfl (by omega)
  have hs0 := hs.alloc (.cells #[.int .i64 0, .int .i64 0, .int .i64 0, .int .i64 0, .int .i64 0] 39)
  clear hs
  go_enter Try.func101, Try.ntmps101
  go_wp2_with fail
  generalize w.alloc (.cells #[.int .i64 0, .int .i64 0, .int .i64 0, .int .i64 0, .int .i64 0] 39) = W0 at *
  refine (drawPoint_any B _ hs0).mono ?_
  rintro e w1 ⟨a, b, rfl, _, _, hs1, hc⟩
  have X1 := X0.step hc
  clear hc X0 hs0
  go_wp2_with fail
  refine (drawHeading_any B _ hs1).mono ?_
  rintro e w2 ⟨c, d, rfl, hs2, hc⟩
  have X2 := X1.step hc
  clear hc X1 hs1
  go_wp2_with fail
  refine (next_pos B _ _ hs2 (by omega)).mono ?_
  rintro e w3 ⟨r1, rfl, r10, r11, hs3, hc⟩
  have X3 := X2.step hc
  clear hc X2 hs2
  have T1 : IntKind.i64.wrap (1 + r1) = 1 + r1 := IntWalk.i64_in _ (by omega)
  obtain ⟨W3, hW3⟩ : ∃ W3, W3 = w3.alloc (.cells #[.int .i64 a, .int .i64 b, .int .i64 c, .int .i64 d, .int .i64 (1 + r1)] 39) := ⟨_, rfl⟩
  have hB3 := hs3.lt
  have X4 : BX w B [(w.heap.size, H5 0 0 0 0 0), (w3.heap.size, H5 a b c d (1 + r1))] W3 := hW3 ▸ X3.add (H5 a b c d (1 + r1)) 39 rfl (by omega)
  have hs4 : Src W3 B := hW3 ▸ hs3.alloc _
  clear hs3 X3
  go_upto_region 2 with fail
  rw [← hW3]
  clear hW3 T1
  generalize 1 + r1 = n at *
  go_wp2_with fail
  refine (next_pos B _ _ hs4 (by omega)).mono ?_
  rintro e w5 ⟨r2, rfl, r20, r21, hs5, hc⟩
  have X5 := X4.step hc
  clear hc X4 hs4
  by_cases h0 : r2 = 0
  · have t0 : (r2 == 0) = true := beq_iff_eq.2 h0
    clear h0
    go_wp2_with fail
    refine (next_pos B _ _ (hs5.alloc _) (by omega)).mono ?_
    rintro e w6 ⟨r3, rfl, r30, r31, hs6, hc⟩
    obtain ⟨v, hv, -⟩ := pick3 hc hs5 r30 r31
    have X6 := (X5.ext ((Ext.refl w5).alloc _)).step hc
    clear hc X5 hs5
    obtain ⟨⟨d0, d1, d2, d3, d4⟩, c0, c1, c2, c3, c4⟩ := (X6.box 1 _ rfl).five
    obtain ⟨W6, hW6⟩ : ∃ W6, W6 = w6.setCell ⟨w3.heap.size, 4, none⟩ (.int .i64 v) := ⟨_, rfl⟩
    have X7 : BX w B [(w.heap.size, H5 0 0 0 0 0), (w3.heap.size, H5 a b c d v)] W6 := hW6 ▸ X6.put 1 4 rfl (by simp) (.int .i64 v)
    have hs7 : Src W6 B := hW6 ▸ hs6.setCell (by simp; omega) _
    go_upto_region 7 with fail
    rw [← hW6]
    clear hW6 X6 hs6 d0 d1 d2 d3 d4 c0 c1 c2 c3 c4 hv
    obtain ⟨⟨d0, d1, d2, d3, d4⟩, _⟩ := (X7.box 1 _ rfl).five
    obtain ⟨⟨e0, e1, e2, e3, e4⟩, c0, c1, c2, c3, c4⟩ := (X7.box 0 _ rfl).five
    have X8 := put5 X7 0 rfl (.int .i64 a) (.int .i64 b) (.int .i64 c) (.int .i64 d) (.int .i64 v)
    have hs8 := src5 hs7 hB (.int .i64 a) (.int .i64 b) (.int .i64 c) (.int .i64 d) (.int .i64 v)
    go_wp2
    exact hu_done (X8.box 0 _ rfl) rfl hs8 X8.chg
  have t0 : (r2 == 0) = false := beq_eq_false_iff_ne.2 h0
  by_cases h1 : r2 = 1
  · have t1 : (r2 == 1) = true := beq_iff_eq.2 h1
    clear h0 h1
    go_wp2_with fail
    refine (drawAny_any B _ hs5).mono ?_
    rintro e w6 ⟨x, y, rfl, _, _, hs6, hc⟩
    have X6 := X5.step hc
    clear hc X5 hs5
    obtain ⟨⟨d0, d1, d2, d3, d4⟩, c0, c1, c2, c3, c4⟩ := (X6.box 1 _ rfl).five
    obtain ⟨W6, hW6⟩ : ∃ W6, W6 = (w6.setCell ⟨w3.heap.size, 0, none⟩ (.int .i64 x)).setCell ⟨w3.heap.size, 1, none⟩ (.int .i64 y) := ⟨_, rfl⟩
    have X7 : BX w B [(w.heap.size, H5 0 0 0 0 0), (w3.heap.size, H5 x y c d n)] W6 := hW6 ▸ (X6.put 1 0 rfl (by simp) (.int .i64 x)).put 1 1 rfl (by simp) (.int .i64 y)
    have hs7 : Src W6 B := hW6 ▸ (hs6.setCell (by simp; omega) _).setCell (by simp; omega) _
    go_upto_region 7 with fail
    rw [← hW6]
    clear hW6 X6 hs6 d0 d1 d2 d3 d4 c0 c1 c2 c3 c4
    obtain ⟨⟨d0, d1, d2, d3, d4⟩, _⟩ := (X7.box 1 _ rfl).five
    obtain ⟨⟨e0, e1, e2, e3, e4⟩, c0, c1, c2, c3, c4⟩ := (X7.box 0 _ rfl).five
    have X8 := put5 X7 0 rfl (.int .i64 x) (.int .i64 y) (.int .i64 c) (.int .i64 d) (.int .i64 n)
    have hs8 := src5 hs7 hB (.int .i64 x) (.int .i64 y) (.int .i64 c) (.int .i64 d) (.int .i64 n)
    go_wp2
    exact hu_done (X8.box 0 _ rfl) rfl hs8 X8.chg
  · have t1 : (r2 == 1) = false := beq_eq_false_iff_ne.2 h1
    clear h0 h1
    obtain ⟨⟨d0, d1, d2, d3, d4⟩, _⟩ := (X5.box 1 _ rfl).five
    obtain ⟨⟨e0, e1, e2, e3, e4⟩, c0, c1, c2, c3, c4⟩ := (X5.box 0 _ rfl).five
    have X8 := put5 X5 0 rfl (.int .i64 a) (.int .i64 b) (.int .i64 c) (.int .i64 d) (.int .i64 n)
    have hs8 := src5 hs5 hB (.int .i64 a) (.int .i64 b) (.int .i64 c) (.int .i64 d) (.int .i64 n)
    go_wp2
    exact hu_done (X8.box 0 _ rfl) rfl hs8 X8.chg

end Go.Proofs.Ytcangdcakgcpaaa.Draw
