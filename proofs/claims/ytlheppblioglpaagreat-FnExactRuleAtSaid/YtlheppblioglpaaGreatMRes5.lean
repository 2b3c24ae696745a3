/- Parts of this claim in one text: Res5, Bxs, HulL, HulA. -/
import Derived.Test.YtlheppblioglpaaGreatRes
import Derived.Test.YtlheppblioglpaaGreatCel
import Derived.Test.YtlheppblioglpaaGreatHul
import Derived.Test.YtlheppblioglpaaGreatMDivM
import Derived.Test.YtlheppblioglpaaGreatHead
import Derived.Test.YtlheppblioglpaaGreatWnd3

/- Words on a result's box of three and of five cells, of no program. -/
namespace Go.Proofs.YtlheppblioglpaaGreat.Kit
open Go.ChangeShapes Go.WideShapes Go.ChangeAt Go.RowKit

theorem Res.three {W : World} {n : Nat} {a : World} (h : Res W n 3 a) : ∃ x y z, Box a n [x, y, z] := by
  obtain ⟨x, c0, f0⟩ := h.2.2 0 (by omega)
  obtain ⟨y, c1, f1⟩ := h.2.2 1 (by omega)
  obtain ⟨z, c2, f2⟩ := h.2.2 2 (by omega)
  refine ⟨x, y, z, fun i v hv => ?_⟩
  match i, hv with
  | 0, hv => simp at hv; subst hv; exact ⟨c0, f0⟩
  | 1, hv => simp at hv; subst hv; exact ⟨c1, f1⟩
  | 2, hv => simp at hv; subst hv; exact ⟨c2, f2⟩
theorem Res.five {W : World} {n : Nat} {a : World} (h : Res W n 5 a) : ∃ x y z u r, Box a n [x, y, z, u, r] := by
  obtain ⟨x, c0, f0⟩ := h.2.2 0 (by omega)
  obtain ⟨y, c1, f1⟩ := h.2.2 1 (by omega)
  obtain ⟨z, c2, f2⟩ := h.2.2 2 (by omega)
  obtain ⟨u, c3, f3⟩ := h.2.2 3 (by omega)
  obtain ⟨r, c4, f4⟩ := h.2.2 4 (by omega)
  refine ⟨x, y, z, u, r, fun i v hv => ?_⟩
  match i, hv with
  | 0, hv => simp at hv; subst hv; exact ⟨c0, f0⟩
  | 1, hv => simp at hv; subst hv; exact ⟨c1, f1⟩
  | 2, hv => simp at hv; subst hv; exact ⟨c2, f2⟩
  | 3, hv => simp at hv; subst hv; exact ⟨c3, f3⟩
  | 4, hv => simp at hv; subst hv; exact ⟨c4, f4⟩
theorem Res.new3 {W : World} {x y z : Value} {t : TypeId} : Res W W.heap.size 3 (W.alloc (.cells #[x, y, z] t)) := Res.new rfl 3 rfl
theorem Res.new5 {W : World} {x y z u r : Value} {t : TypeId} : Res W W.heap.size 5 (W.alloc (.cells #[x, y, z, u, r] t)) := Res.new rfl 5 rfl
theorem Box.new5 {w : World} {x y z u r : Value} {t : TypeId} {n : Nat} (hn : w.heap.size = n) : Box (w.alloc (.cells #[x, y, z, u, r] t)) n [x, y, z, u, r] := Box.new hn
theorem Box.three' {w : World} {n : Nat} {x y z : Value} (h : Box w n [x, y, z]) : (w.cell? ⟨n, 0, none⟩ = some x ∧ w.cell? ⟨n, 1, none⟩ = some y ∧ w.cell? ⟨n, 2, none⟩ = some z) ∧ w.frozen? ⟨n, 0, none⟩ = false ∧ w.frozen? ⟨n, 1, none⟩ = false ∧ w.frozen? ⟨n, 2, none⟩ = false :=
  ⟨⟨(h 0 x rfl).1, (h 1 y rfl).1, (h 2 z rfl).1⟩, (h 0 x rfl).2, (h 1 y rfl).2, (h 2 z rfl).2⟩
theorem Box.five {w : World} {n : Nat} {x y z u r : Value} (h : Box w n [x, y, z, u, r]) : (w.cell? ⟨n, 0, none⟩ = some x ∧ w.cell? ⟨n, 1, none⟩ = some y ∧ w.cell? ⟨n, 2, none⟩ = some z ∧ w.cell? ⟨n, 3, none⟩ = some u ∧ w.cell? ⟨n, 4, none⟩ = some r) ∧
    w.frozen? ⟨n, 0, none⟩ = false ∧ w.frozen? ⟨n, 1, none⟩ = false ∧ w.frozen? ⟨n, 2, none⟩ = false ∧ w.frozen? ⟨n, 3, none⟩ = false ∧ w.frozen? ⟨n, 4, none⟩ = false :=
  ⟨⟨(h 0 x rfl).1, (h 1 y rfl).1, (h 2 z rfl).1, (h 3 u rfl).1, (h 4 r rfl).1⟩, (h 0 x rfl).2, (h 1 y rfl).2, (h 2 z rfl).2, (h 3 u rfl).2, (h 4 r rfl).2⟩
theorem Box.set3 {w : World} {n : Nat} {x y z a b c : Value} (h : Box w n [x, y, z]) : Box (((w.setCell ⟨n, 0, none⟩ a).setCell ⟨n, 1, none⟩ b).setCell ⟨n, 2, none⟩ c) n [a, b, c] :=
  ((h.set 0 (by simp) a).set 1 (by simp) b).set 2 (by simp) c
theorem Box.set5 {w : World} {n : Nat} {x y z u r a b c d e : Value} (h : Box w n [x, y, z, u, r]) : Box (((((w.setCell ⟨n, 0, none⟩ a).setCell ⟨n, 1, none⟩ b).setCell ⟨n, 2, none⟩ c).setCell ⟨n, 3, none⟩ d).setCell ⟨n, 4, none⟩ e) n [a, b, c, d, e] :=
  ((((h.set 0 (by simp) a).set 1 (by simp) b).set 2 (by simp) c).set 3 (by simp) d).set 4 (by simp) e

end Go.Proofs.YtlheppblioglpaaGreat.Kit

/- A list of boxes that a call laid itself, while another block (a source of draws) may be written: words of no program. -/
namespace Go.Proofs.YtlheppblioglpaaGreat.Kit
open Go.ChangeShapes Go.WideShapes Go.ChangeAt Go.RowKit

/-- Since w nothing that was there is written but block B, and these boxes are new and hold these values. -/
structure BX (w : World) (B : Nat) (L : List (Nat × List Value)) (u : World) : Prop where
  chg : Chg B w u
  box : ∀ (i : Nat) (p : Nat × List Value), L[i]? = some p → Box u p.1 p.2
  new : ∀ (i : Nat) (p : Nat × List Value), L[i]? = some p → w.heap.size ≤ p.1 ∧ p.1 ≠ B
  nd : (L.map Prod.fst).Nodup
  lt : ∀ (i : Nat) (p : Nat × List Value), L[i]? = some p → p.1 < u.heap.size
theorem BX.nil (w : World) (B : Nat) : BX w B [] w := ⟨Chg.refl _ _, fun i p h => by simp at h, fun i p h => by simp at h, by simp, fun i p h => by simp at h⟩
theorem BX.drew {w : World} {B : Nat} {L : List (Nat × List Value)} {u : World} (h : BX w B L u) : BX w B L u.drew := ⟨h.chg.drew, fun i p e => (h.box i p e).drew, h.new, h.nd, h.lt⟩
theorem BX.step {w : World} {B : Nat} {L : List (Nat × List Value)} {u v : World} (h : BX w B L u) (k : Chg B u v) : BX w B L v :=
  ⟨h.chg.trans k, fun i p e => (h.box i p e).chg k (h.new i p e).2, h.new, h.nd, fun i p e => Nat.lt_of_lt_of_le (h.lt i p e) k.size⟩
theorem BX.ext {w : World} {B : Nat} {L : List (Nat × List Value)} {u v : World} (h : BX w B L u) (k : Ext u v) : BX w B L v :=
  ⟨h.chg.trans (Chg.of_ext k), fun i p e => (h.box i p e).ext k, h.new, h.nd, fun i p e => Nat.lt_of_lt_of_le (h.lt i p e) (Ext.size k)⟩
theorem BX.to {w a : World} {B : Nat} {L : List (Nat × List Value)} {u : World} (h : BX w B L u) (x : Ext a w) (hB : a.heap.size ≤ B) : Ext a u := h.chg.ext x hB
theorem BX.cell {w : World} {B : Nat} {L : List (Nat × List Value)} {u : World} (h : BX w B L u) (i j : Nat) {n : Nat} {vs : List Value} {v : Value} (hi : L[i]? = some (n, vs)) (hj : vs[j]? = some v) : u.cell? ⟨n, j, none⟩ = some v :=
  (h.box i _ hi j v hj).1
theorem BX.thaw {w : World} {B : Nat} {L : List (Nat × List Value)} {u : World} (h : BX w B L u) (i j : Nat) {n : Nat} {vs : List Value} {v : Value} (hi : L[i]? = some (n, vs)) (hj : vs[j]? = some v) : u.frozen? ⟨n, j, none⟩ = false :=
  (h.box i _ hi j v hj).2
/-- A fresh box. -/
theorem BX.add {w : World} {B : Nat} {L : List (Nat × List Value)} {u : World} (h : BX w B L u) (vs : List Value) (t : TypeId) {n : Nat} (hn : u.heap.size = n) (hB : n ≠ B) : BX w B (L ++ [(n, vs)]) (u.alloc (.cells vs.toArray t)) := by
  subst hn
  have hx : Ext u (u.alloc (.cells vs.toArray t)) := (Ext.refl u).alloc _
  have hw : w.heap.size ≤ u.heap.size := h.chg.size
  have key : ∀ i p, (L ++ [(u.heap.size, vs)])[i]? = some p → L[i]? = some p ∨ p = (u.heap.size, vs) := fun i p e => by
    by_cases hi : i < L.length
    · rw [List.getElem?_append_left hi] at e; exact .inl e
    · rw [List.getElem?_append_right (by omega)] at e
      cases hj : i - L.length with
      | zero => rw [hj] at e; simp at e; exact .inr e.symm
      | succ j => rw [hj] at e; simp at e
  refine ⟨h.chg.alloc _, fun i p e => ?_, fun i p e => ?_, ?_, fun i p e => ?_⟩
  · rcases key i p e with e | rfl
    · exact (h.box i p e).ext hx
    · exact Box.new rfl
  · rcases key i p e with e | rfl
    · exact h.new i p e
    · exact ⟨hw, by simp only; omega⟩
  · rw [List.map_append, List.nodup_append]
    refine ⟨h.nd, by simp, fun a ha b hb => ?_⟩
    simp at hb
    subst hb
    obtain ⟨p, hp, rfl⟩ := List.mem_map.1 ha
    obtain ⟨i, hi⟩ := List.getElem?_of_mem hp
    have := h.lt i p hi
    omega
  · rcases key i p e with e | rfl
    · exact Nat.lt_of_lt_of_le (h.lt i p e) (Ext.size hx)
    · simp
theorem BX.put {w : World} {B : Nat} {L : List (Nat × List Value)} {u : World} (h : BX w B L u) (i j : Nat) {n : Nat} {vs : List Value} (hi : L[i]? = some (n, vs)) (hj : j < vs.length) (v : Value) : BX w B (L.set i (n, vs.set j v)) (u.setCell ⟨n, j, none⟩ v) := by
  have hlt := (List.getElem?_eq_some_iff.1 hi).1
  have hfst : (L.set i (n, vs.set j v)).map Prod.fst = L.map Prod.fst := by
    rw [List.map_set]
    apply List.ext_getElem?
    intro k
    rw [List.getElem?_set]
    split
    · rename_i e; subst e
      split
      · rw [List.getElem?_map, hi]; rfl
      · rename_i hk; rw [List.length_map] at hk; exact absurd hlt hk
    · rfl
  refine ⟨h.chg.setNew (h.new i _ hi).1 v, fun k p hk => ?_, fun k p hk => ?_, by rw [hfst]; exact h.nd, fun k p hk => ?_⟩
  · rw [List.getElem?_set] at hk
    split at hk
    · rename_i e; subst e
      (try rw [if_pos hlt] at hk)
      cases hk
      exact (h.box i _ hi).set j hj v
    · rename_i e
      refine (h.box k p hk).away (p := ⟨n, j, none⟩) ?_ v
      intro e2
      have hk2 := (List.getElem?_eq_some_iff.1 hk).1
      have g1 : (L.map Prod.fst)[i]? = some n := by rw [List.getElem?_map, hi]; rfl
      have g2 : (L.map Prod.fst)[k]? = some n := by rw [List.getElem?_map, hk]; exact congrArg some e2.symm
      exact e ((List.getElem?_inj (by rw [List.length_map]; exact hlt) h.nd).1 (g1.trans g2.symm))
  · rw [List.getElem?_set] at hk
    split at hk
    · rename_i e; subst e
      (try rw [if_pos hlt] at hk)
      cases hk
      exact h.new i (n, vs) hi
    · exact h.new k p hk
  · have hz : (u.setCell ⟨n, j, none⟩ v).heap.size = u.heap.size := by simp [World.setCell]
    rw [hz]
    rw [List.getElem?_set] at hk
    split at hk
    · rename_i e; subst e
      (try rw [if_pos hlt] at hk)
      cases hk
      exact h.lt i (n, vs) hi
    · exact h.lt k p hk

end Go.Proofs.YtlheppblioglpaaGreat.Kit

/- Hulls of the laws as hulls of the program, and comparing hulls (chapter 9's laws). -/
namespace Go.Proofs.YtlheppblioglpaaGreat.Hul
open Go.ChangeShapes Go.WideShapes Go.ChangeAt Go.RowKit
open Go.Proofs.YtlheppblioglpaaGreat.Num Go.Proofs.YtlheppblioglpaaGreat.Kit Go.Proofs.YtlheppblioglpaaGreat.Pts Go.Proofs.YtlheppblioglpaaGreat.Seg Go.Proofs.YtlheppblioglpaaGreat.Wnd
set_option linter.unusedVariables false
set_option linter.unusedSimpArgs false

end Go.Proofs.YtlheppblioglpaaGreat.Hul

/- What HullAt answers (chapter 9), both. -/
namespace Go.Proofs.YtlheppblioglpaaGreat.Hul
open Go.ChangeShapes Go.WideShapes Go.ChangeAt Go.RowKit
open Go.Proofs.YtlheppblioglpaaGreat.Num Go.Proofs.YtlheppblioglpaaGreat.Kit Go.Proofs.YtlheppblioglpaaGreat.Pts Go.Proofs.YtlheppblioglpaaGreat.Seg Go.Proofs.YtlheppblioglpaaGreat.Wnd Go.Proofs.YtlheppblioglpaaGreat.Trk
set_option linter.unusedVariables false
set_option linter.unusedSimpArgs false

/-- The answers of HullAt. -/
def haC (fs : List F3) (t l : Int) : Int := if trB fs = true then (if inB l 1 1000 = true then heC fs t else 2) else 1
def haV (fs : List F3) (t l x : Int) : Int := if haC fs t l = 0 then x else 0
abbrev haH (fs : List F3) (t l : Int) : Value := Hv (haV fs t l (pkX fs t (legOf fs t))) (haV fs t l (pkY fs t (legOf fs t))) (haV fs t l (heX fs t)) (haV fs t l (heY fs t)) (haV fs t l l)
theorem ha_no {fs : List F3} {t l : Int} (h : haC fs t l ≠ 0) : haH fs t l = Hv 0 0 0 0 0 := by
  have e : ∀ x, haV fs t l x = 0 := fun x => if_neg h
  unfold haH
  rw [e, e, e, e, e]
theorem ha_yes {fs : List F3} {t l : Int} (h : haC fs t l = 0) : haH fs t l = Hv (pkX fs t (legOf fs t)) (pkY fs t (legOf fs t)) (heX fs t) (heY fs t) l := by
  have e : ∀ x, haV fs t l x = x := fun x => if_pos h
  unfold haH
  rw [e, e, e, e, e]
theorem he_in {fs : List F3} {t : Int} (h : heC fs t = 0) : ctI fs t = 0 := by
  by_cases hc : ctI fs t = 0
  · exact hc
  · rw [(he_no hc).1] at h; exact absurd h hc
theorem ha_done {n : Nat} {w F : World} {tmps : Array Value} {a b c d e k : Int} (B : Box F n [.int .i64 a, .int .i64 b, .int .i64 c, .int .i64 d, .int .i64 e]) (hC : Ext w F) (h6 : tmps[6]? = some (.pointer (some ⟨n, 0, none⟩))) (h7 : tmps[7]? = some (.int .i64 k)) (X : Value) (hX : X = Hv a b c d e) (K : Int) (hK : K = k) :
    bodyPost Tryz.prog Tryz.f26 (fun e w' => e = .returned (.tuple #[X, .int .i64 K]) ∧ Ext w w') Exit.ret ⟨tmps, []⟩ F := by
  subst hX; subst hK
  obtain ⟨⟨g0, g1, g2, g3, g4⟩, _⟩ := B.five
  exact bodyPost_ret (v := .tuple #[Hv a b c d e, .int .i64 K]) (by simp [results, Tryz.results26, go_sem, h6, h7, g0, g1, g2, g3, g4]) rfl ⟨rfl, hC⟩
theorem hs_done {n : Nat} {w F : World} {tmps : Array Value} {a b c d e k : Int} (B : Box F n [.int .i64 a, .int .i64 b, .int .i64 c, .int .i64 d, .int .i64 e]) (hC : Ext w F) (h6 : tmps[6]? = some (.pointer (some ⟨n, 0, none⟩))) (h7 : tmps[7]? = some (.int .i64 k)) (X : Value) (hX : X = Hv a b c d e) (K : Int) (hK : K = k) :
    bodyPost Tryz.prog Tryz.f38 (fun e w' => e = .returned (.tuple #[X, .int .i64 K]) ∧ Ext w w') Exit.ret ⟨tmps, []⟩ F := by
  subst hX; subst hK
  obtain ⟨⟨g0, g1, g2, g3, g4⟩, _⟩ := B.five
  exact bodyPost_ret (v := .tuple #[Hv a b c d e, .int .i64 K]) (by simp [results, Tryz.results38, go_sem, h6, h7, g0, g1, g2, g3, g4]) rfl ⟨rfl, hC⟩

set_option maxHeartbeats 2000000 in
theorem hullAt_impl (a : Option Addr) (cap : Nat) (fs : List F3) (t l : Int) (w : World) (hf : Fxs w a fs) (hcap : fs.length ≤ cap) :
    Calls Tryz.prog 26 #[Tr (.slice a fs.length cap), .int .i64 t, .int .i64 l] w fun e w' => e = .returned (.tuple #[haH fs t l, .int .i64 (haC fs t l)]) ∧ Ext w w' := by
  have HF := Lib.hid hf
  clear hf
  obtain ⟨W0, hW0⟩ : ∃ W0, W0 = w.alloc (.cells #[.slice a fs.length cap] 28) := ⟨_, rfl⟩
  have hX : Ext w W0 := hW0 ▸ ((Ext.refl w).alloc _)
  have hs0 : W0.heap.size = w.heap.size + 1 := by rw [hW0]; simp
  have e00 : ∀ w', (Res W0 (w.heap.size + 1) 5) w' → w'.cell? ⟨w.heap.size, 0, none⟩ = some (.slice a fs.length cap) := fun w' h => h.1.cellOf (by rw [hW0]; exact boxed 0 rfl (by simp))
  have S0 := Lib.hid (Res.new5 (W := W0) (x := .int .i64 0) (y := .int .i64 0) (z := .int .i64 0) (u := .int .i64 0) (r := .int .i64 0) (t := 37))
  rw [hs0] at S0
  go_enter Tryz.func26, Tryz.ntmps26
  go_wp2_with fail
  rw [← hW0]
  have S1 := S0.out
  clear hW0 S0
  generalize W0.alloc (.cells #[.int .i64 0, .int .i64 0, .int .i64 0, .int .i64 0, .int .i64 0] 37) = V at *
  have HH := HF.out.ext (hX.trans S1.1)
  refine (trackValid_any _ _ _ _ HH).mono ?_
  rintro e w1 ⟨rfl, hy⟩
  have S2 := S1.ext hy
  clear hy HH S1
  cases hv : trB fs
  · have HC := Lib.hid (show haC fs t l = 1 by unfold haC; rw [hv]; rfl)
    obtain ⟨x0, x1, x2, x3, x4, rb⟩ := Res.five S2
    obtain ⟨⟨r0, r1, r2, r3, r4⟩, s0, s1, s2, s3, s4⟩ := rb.five
    have BR := Lib.hid (rb.set5 (a := .int .i64 0) (b := .int .i64 0) (c := .int .i64 0) (d := .int .i64 0) (e := .int .i64 0))
    have XR := Lib.hid (Res.set (Res.set (Res.set (Res.set (Res.set S2 0 (.int .i64 0)) 1 (.int .i64 0)) 2 (.int .i64 0)) 3 (.int .i64 0)) 4 (.int .i64 0)).1
    go_wp2
    exact ha_done BR.out (hX.trans XR.out) rfl rfl _ (ha_no (by rw [HC.out]; decide)) _ HC.out
  go_wp2_with fail
  refine (isHullLength_any _ _).mono ?_
  rintro e w2 ⟨rfl, rfl⟩
  cases hn : inB l 1 1000
  · have HC := Lib.hid (show haC fs t l = 2 by unfold haC; rw [hv, hn]; rfl)
    obtain ⟨x0, x1, x2, x3, x4, rb⟩ := Res.five S2
    obtain ⟨⟨r0, r1, r2, r3, r4⟩, s0, s1, s2, s3, s4⟩ := rb.five
    have BR := Lib.hid (rb.set5 (a := .int .i64 0) (b := .int .i64 0) (c := .int .i64 0) (d := .int .i64 0) (e := .int .i64 0))
    have XR := Lib.hid (Res.set (Res.set (Res.set (Res.set (Res.set S2 0 (.int .i64 0)) 1 (.int .i64 0)) 2 (.int .i64 0)) 3 (.int .i64 0)) 4 (.int .i64 0)).1
    go_wp2
    exact ha_done BR.out (hX.trans XR.out) rfl rfl _ (ha_no (by rw [HC.out]; decide)) _ HC.out
  have HC := Lib.hid (show haC fs t l = heC fs t by unfold haC; rw [hv, hn]; rfl)
  have g00 := e00 _ S2
  have HH := HF.out.ext (hX.trans S2.1)
  go_wp2_with fail
  refine (headingAt_impl _ _ _ _ _ HH hcap).mono ?_
  rintro e w2 ⟨rfl, hy⟩
  have S3 := S2.ext hy
  clear hy HH S2 g00
  by_cases hc : heC fs t = 0
  · obtain ⟨_, hl⟩ := ctI_zero (he_in hc)
    have HA := Lib.hid (ha_yes (HC.out.trans hc))
    have HC0 := Lib.hid (HC.out.trans hc)
    have PP := Lib.hid (fun (W : World) (HH : Fxs W a fs) => positionAt_any a cap fs t W HH hcap hv hl)
    have hn1 : 1 ≤ l := (of_inB hn).1
    rw [hc]
    replace HA := HA.out
    clear hc HC hn hv
    generalize heX fs t = p at *
    generalize heY fs t = q at *
    generalize pkX fs t (legOf fs t) = x at *
    generalize pkY fs t (legOf fs t) = y at *
    replace HA := Lib.hid HA
    have S4 : ResB W0 (w.heap.size + 1) 5 w2.heap.size [.int .i64 p, .int .i64 q] (w2.alloc (.cells #[.int .i64 p, .int .i64 q] 35)) :=
      ⟨S3.ext ((Ext.refl w2).alloc _), by have := World.block_lt_of_cell? w2 _ (S3.2.2 0 (by omega)).choose_spec.1; simp only at this; omega, Box.new2 rfl⟩
    have f0 : ∀ w', ResB W0 (w.heap.size + 1) 5 w2.heap.size [.int .i64 p, .int .i64 q] w' → w'.cell? ⟨w.heap.size, 0, none⟩ = some (.slice a fs.length cap) := fun w' h => e00 w' h.1
    have f1 : ∀ w', ResB W0 (w.heap.size + 1) 5 w2.heap.size [.int .i64 p, .int .i64 q] w' → w'.cell? ⟨w2.heap.size, 0, none⟩ = some (.int .i64 p) := fun w' h => h.2.2.two.1.1
    have f2 : ∀ w', ResB W0 (w.heap.size + 1) 5 w2.heap.size [.int .i64 p, .int .i64 q] w' → w'.cell? ⟨w2.heap.size, 1, none⟩ = some (.int .i64 q) := fun w' h => h.2.2.two.1.2
    have HF2 := Lib.hid (fun (w' : World) (h : ResB W0 (w.heap.size + 1) 5 w2.heap.size [.int .i64 p, .int .i64 q] w') => HF.out.ext (hX.trans h.1.1))
    go_upto_region 8 with fail
    clear S3 e00 HF
    generalize w2.alloc (.cells #[.int .i64 p, .int .i64 q] 35) = V4 at *
    refine wp_region_held_drew (S := (ResB W0 (w.heap.size + 1) 5 w2.heap.size [.int .i64 p, .int .i64 q])) (by kernel_rfl) (by (try dsimp only); first | go_keep | exact (Ext.refl _).drew | exact Res.new2.drew | exact Res.new4.drew | exact ResB.drew (by assumption) | exact ResC.drew (by assumption) | assumption | exact Ext.drew (by assumption) | exact Res.drew (by assumption)) (fun hHeld => ?_)
    refine Ord.K 0 28 ?_
    refine Ord.K 1 29 ?_
    refine Ord.K 3 31 ?_
    refine Ord.K 4 32 ?_
    (refine wpAnyH_ready (rs := [2]) (by kernel_rfl) (by simp) ?_; refine AllReadyH.cons rfl (fun K hK => ?_) AllReadyH.nil; go_simp; (go_at_call 31; refine (PP.out _ (HF2.out _ hHeld)).mono ?_; rintro e w4 ⟨rfl, hy⟩); go_wp2_with fail; (refine hK.out _ _ (by first | assumption | exact Ext.trans (by assumption) hy | exact Res.ext (by assumption) hy | exact ResB.ext (by assumption) hy | exact ResC.ext (by assumption) hy | (go_split_ands; (repeat' apply And.intro) <;> exact Ext.cellOf hy (by assumption))) (fun hHeld => ?_)); clear hK K; (try simp only [Act.put, Ord.a, Ord.b, Ord.c]))
    refine Ord.K 5 33 ?_
    (((first | refine Exists.elim (Res.five hHeld) (fun rx rh => ?_) | refine Exists.elim (Res.five hHeld.1) (fun rx rh => ?_)); refine Exists.elim rh (fun ry rh => ?_); refine Exists.elim rh (fun rz rh => ?_); refine Exists.elim rh (fun ru rh => ?_); refine Exists.elim rh (fun rt rb => ?_); have r0 := rb.five.1.1; have r1 := rb.five.1.2.1; have r2 := rb.five.1.2.2.1; have r3 := rb.five.1.2.2.2.1; have r4 := rb.five.1.2.2.2.2; have r5 := rb.five.2.1; have r6 := rb.five.2.2.1; have r7 := rb.five.2.2.2.1; have r8 := rb.five.2.2.2.2.1; have r9 := rb.five.2.2.2.2.2; clear rh; (try simp only [World.cell?_drew, World.frozen?_drew] at r0 r1 r2 r3 r4 r5 r6 r7 r8 r9)); refine wpAnyH_ready (rs := [6]) (by kernel_rfl) (by simp) ?_; refine AllReadyH.cons rfl (fun K hK => ?_) AllReadyH.nil; go_simp; (refine hK.out _ _ (by with_reducible exact ResB.set (ResB.set (ResB.set (ResB.set (ResB.set hHeld _ _) _ _) _ _) _ _) _ _) (fun hHeld => ?_)); clear hK K; (try simp only [Act.put, Ord.a, Ord.b, Ord.c]))
    refine Ord.K 7 7 ?_
    refine wpAnyH_done (by kernel_rfl) ?_ _
    go_wp2
    exact ha_done (rb.set5 (a := .int .i64 x) (b := .int .i64 y) (c := .int .i64 p) (d := .int .i64 q) (e := .int .i64 l)) (hX.trans hHeld.1.1) rfl rfl _ HA.out _ HC0.out
  · have hc2 : (heC fs t != 0) = true := by simpa using hc
    replace HC := HC.out
    generalize heC fs t = k at *
    have S4 := S3.ext ((Ext.refl w2).alloc (.cells #[.int .i64 (heX fs t), .int .i64 (heY fs t)] 35))
    generalize heX fs t = p at *
    generalize heY fs t = q at *
    go_upto_region 6 with fail
    generalize w2.alloc (.cells #[.int .i64 p, .int .i64 q] 35) = V4 at *
    obtain ⟨x0, x1, x2, x3, x4, rb⟩ := Res.five S4
    obtain ⟨⟨r0, r1, r2, r3, r4⟩, s0, s1, s2, s3, s4⟩ := rb.five
    have BR := Lib.hid (rb.set5 (a := .int .i64 0) (b := .int .i64 0) (c := .int .i64 0) (d := .int .i64 0) (e := .int .i64 0))
    have XR := Lib.hid (Res.set (Res.set (Res.set (Res.set (Res.set S4 0 (.int .i64 0)) 1 (.int .i64 0)) 2 (.int .i64 0)) 3 (.int .i64 0)) 4 (.int .i64 0)).1
    go_wp2
    exact ha_done BR.out (hX.trans XR.out) rfl rfl _ (ha_no (by rw [HC]; exact hc)) _ HC

set_option maxHeartbeats 2000000 in
theorem hullAt_spec (a : Option Addr) (cap : Nat) (fs : List F3) (t l : Int) (w : World) (hf : Fxs w a fs) (hcap : fs.length ≤ cap) :
    Calls Tryz.prog 38 #[Tr (.slice a fs.length cap), .int .i64 t, .int .i64 l] w fun e w' => e = .returned (.tuple #[haH fs t l, .int .i64 (haC fs t l)]) ∧ Ext w w' := by
  have HF := Lib.hid hf
  clear hf
  obtain ⟨W0, hW0⟩ : ∃ W0, W0 = w.alloc (.cells #[.slice a fs.length cap] 28) := ⟨_, rfl⟩
  have hX : Ext w W0 := hW0 ▸ ((Ext.refl w).alloc _)
  have hs0 : W0.heap.size = w.heap.size + 1 := by rw [hW0]; simp
  have e00 : ∀ w', (Res W0 (w.heap.size + 1) 5) w' → w'.cell? ⟨w.heap.size, 0, none⟩ = some (.slice a fs.length cap) := fun w' h => h.1.cellOf (by rw [hW0]; exact boxed 0 rfl (by simp))
  have S0 := Lib.hid (Res.new5 (W := W0) (x := .int .i64 0) (y := .int .i64 0) (z := .int .i64 0) (u := .int .i64 0) (r := .int .i64 0) (t := 37))
  rw [hs0] at S0
  go_enter Tryz.func38, Tryz.ntmps38
  go_wp2_with fail
  rw [← hW0]
  have S1 := S0.out
  clear hW0 S0
  generalize W0.alloc (.cells #[.int .i64 0, .int .i64 0, .int .i64 0, .int .i64 0, .int .i64 0] 37) = V at *
  have HH := HF.out.ext (hX.trans S1.1)
  refine (isTrack_spec _ _ _ _ HH).mono ?_
  rintro e w1 ⟨rfl, hy⟩
  have S2 := S1.ext hy
  clear hy HH S1
  cases hv : trB fs
  · have HC := Lib.hid (show haC fs t l = 1 by unfold haC; rw [hv]; rfl)
    obtain ⟨x0, x1, x2, x3, x4, rb⟩ := Res.five S2
    obtain ⟨⟨r0, r1, r2, r3, r4⟩, s0, s1, s2, s3, s4⟩ := rb.five
    have BR := Lib.hid (rb.set5 (a := .int .i64 0) (b := .int .i64 0) (c := .int .i64 0) (d := .int .i64 0) (e := .int .i64 0))
    have XR := Lib.hid (Res.set (Res.set (Res.set (Res.set (Res.set S2 0 (.int .i64 0)) 1 (.int .i64 0)) 2 (.int .i64 0)) 3 (.int .i64 0)) 4 (.int .i64 0)).1
    go_wp2
    exact hs_done BR.out (hX.trans XR.out) rfl rfl _ (ha_no (by rw [HC.out]; decide)) _ HC.out
  go_wp2_with fail
  refine (in_any _ _ _ _).mono ?_
  rintro e w2 ⟨rfl, rfl⟩
  cases hn : inB l 1 1000
  · have HC := Lib.hid (show haC fs t l = 2 by unfold haC; rw [hv, hn]; rfl)
    obtain ⟨x0, x1, x2, x3, x4, rb⟩ := Res.five S2
    obtain ⟨⟨r0, r1, r2, r3, r4⟩, s0, s1, s2, s3, s4⟩ := rb.five
    have BR := Lib.hid (rb.set5 (a := .int .i64 0) (b := .int .i64 0) (c := .int .i64 0) (d := .int .i64 0) (e := .int .i64 0))
    have XR := Lib.hid (Res.set (Res.set (Res.set (Res.set (Res.set S2 0 (.int .i64 0)) 1 (.int .i64 0)) 2 (.int .i64 0)) 3 (.int .i64 0)) 4 (.int .i64 0)).1
    go_wp2
    exact hs_done BR.out (hX.trans XR.out) rfl rfl _ (ha_no (by rw [HC.out]; decide)) _ HC.out
  have HC := Lib.hid (show haC fs t l = heC fs t by unfold haC; rw [hv, hn]; rfl)
  have g00 := e00 _ S2
  have HH := HF.out.ext (hX.trans S2.1)
  go_wp2_with fail
  refine (headingAt_spec _ _ _ _ _ HH).mono ?_
  rintro e w2 ⟨rfl, hy⟩
  have S3 := S2.ext hy
  clear hy HH S2 g00
  by_cases hc : heC fs t = 0
  · obtain ⟨_, hl⟩ := ctI_zero (he_in hc)
    have HA := Lib.hid (ha_yes (HC.out.trans hc))
    have HC0 := Lib.hid (HC.out.trans hc)
    have PP := Lib.hid (fun (W : World) (HH : Fxs W a fs) => at_spec a cap fs t W HH hv hl)
    have hn1 : 1 ≤ l := (of_inB hn).1
    rw [hc]
    replace HA := HA.out
    clear hc HC hn hv
    generalize heX fs t = p at *
    generalize heY fs t = q at *
    generalize pkX fs t (legOf fs t) = x at *
    generalize pkY fs t (legOf fs t) = y at *
    replace HA := Lib.hid HA
    have S4 : ResB W0 (w.heap.size + 1) 5 w2.heap.size [.int .i64 p, .int .i64 q] (w2.alloc (.cells #[.int .i64 p, .int .i64 q] 35)) :=
      ⟨S3.ext ((Ext.refl w2).alloc _), by have := World.block_lt_of_cell? w2 _ (S3.2.2 0 (by omega)).choose_spec.1; simp only at this; omega, Box.new2 rfl⟩
    have f0 : ∀ w', ResB W0 (w.heap.size + 1) 5 w2.heap.size [.int .i64 p, .int .i64 q] w' → w'.cell? ⟨w.heap.size, 0, none⟩ = some (.slice a fs.length cap) := fun w' h => e00 w' h.1
    have f1 : ∀ w', ResB W0 (w.heap.size + 1) 5 w2.heap.size [.int .i64 p, .int .i64 q] w' → w'.cell? ⟨w2.heap.size, 0, none⟩ = some (.int .i64 p) := fun w' h => h.2.2.two.1.1
    have f2 : ∀ w', ResB W0 (w.heap.size + 1) 5 w2.heap.size [.int .i64 p, .int .i64 q] w' → w'.cell? ⟨w2.heap.size, 1, none⟩ = some (.int .i64 q) := fun w' h => h.2.2.two.1.2
    have HF2 := Lib.hid (fun (w' : World) (h : ResB W0 (w.heap.size + 1) 5 w2.heap.size [.int .i64 p, .int .i64 q] w') => HF.out.ext (hX.trans h.1.1))
    go_upto_region 8 with fail
    clear S3 e00 HF
    generalize w2.alloc (.cells #[.int .i64 p, .int .i64 q] 35) = V4 at *
    refine wp_region_held_drew (S := (ResB W0 (w.heap.size + 1) 5 w2.heap.size [.int .i64 p, .int .i64 q])) (by kernel_rfl) (by (try dsimp only); first | go_keep | exact (Ext.refl _).drew | exact Res.new2.drew | exact Res.new4.drew | exact ResB.drew (by assumption) | exact ResC.drew (by assumption) | assumption | exact Ext.drew (by assumption) | exact Res.drew (by assumption)) (fun hHeld => ?_)
    refine Ord.K 0 28 ?_
    refine Ord.K 1 29 ?_
    refine Ord.K 3 31 ?_
    refine Ord.K 4 32 ?_
    (refine wpAnyH_ready (rs := [2]) (by kernel_rfl) (by simp) ?_; refine AllReadyH.cons rfl (fun K hK => ?_) AllReadyH.nil; go_simp; (go_at_call 69; refine (PP.out _ (HF2.out _ hHeld)).mono ?_; rintro e w4 ⟨rfl, hy⟩); go_wp2_with fail; (refine hK.out _ _ (by first | assumption | exact Ext.trans (by assumption) hy | exact Res.ext (by assumption) hy | exact ResB.ext (by assumption) hy | exact ResC.ext (by assumption) hy | (go_split_ands; (repeat' apply And.intro) <;> exact Ext.cellOf hy (by assumption))) (fun hHeld => ?_)); clear hK K; (try simp only [Act.put, Ord.a, Ord.b, Ord.c]))
    refine Ord.K 5 33 ?_
    (((first | refine Exists.elim (Res.five hHeld) (fun rx rh => ?_) | refine Exists.elim (Res.five hHeld.1) (fun rx rh => ?_)); refine Exists.elim rh (fun ry rh => ?_); refine Exists.elim rh (fun rz rh => ?_); refine Exists.elim rh (fun ru rh => ?_); refine Exists.elim rh (fun rt rb => ?_); have r0 := rb.five.1.1; have r1 := rb.five.1.2.1; have r2 := rb.five.1.2.2.1; have r3 := rb.five.1.2.2.2.1; have r4 := rb.five.1.2.2.2.2; have r5 := rb.five.2.1; have r6 := rb.five.2.2.1; have r7 := rb.five.2.2.2.1; have r8 := rb.five.2.2.2.2.1; have r9 := rb.five.2.2.2.2.2; clear rh; (try simp only [World.cell?_drew, World.frozen?_drew] at r0 r1 r2 r3 r4 r5 r6 r7 r8 r9)); refine wpAnyH_ready (rs := [6]) (by kernel_rfl) (by simp) ?_; refine AllReadyH.cons rfl (fun K hK => ?_) AllReadyH.nil; go_simp; (refine hK.out _ _ (by with_reducible exact ResB.set (ResB.set (ResB.set (ResB.set (ResB.set hHeld _ _) _ _) _ _) _ _) _ _) (fun hHeld => ?_)); clear hK K; (try simp only [Act.put, Ord.a, Ord.b, Ord.c]))
    refine Ord.K 7 7 ?_
    refine wpAnyH_done (by kernel_rfl) ?_ _
    go_wp2
    exact hs_done (rb.set5 (a := .int .i64 x) (b := .int .i64 y) (c := .int .i64 p) (d := .int .i64 q) (e := .int .i64 l)) (hX.trans hHeld.1.1) rfl rfl _ HA.out _ HC0.out
  · have hc2 : (heC fs t != 0) = true := by simpa using hc
    replace HC := HC.out
    generalize heC fs t = k at *
    have S4 := S3.ext ((Ext.refl w2).alloc (.cells #[.int .i64 (heX fs t), .int .i64 (heY fs t)] 35))
    generalize heX fs t = p at *
    generalize heY fs t = q at *
    go_upto_region 6 with fail
    generalize w2.alloc (.cells #[.int .i64 p, .int .i64 q] 35) = V4 at *
    obtain ⟨x0, x1, x2, x3, x4, rb⟩ := Res.five S4
    obtain ⟨⟨r0, r1, r2, r3, r4⟩, s0, s1, s2, s3, s4⟩ := rb.five
    have BR := Lib.hid (rb.set5 (a := .int .i64 0) (b := .int .i64 0) (c := .int .i64 0) (d := .int .i64 0) (e := .int .i64 0))
    have XR := Lib.hid (Res.set (Res.set (Res.set (Res.set (Res.set S4 0 (.int .i64 0)) 1 (.int .i64 0)) 2 (.int .i64 0)) 3 (.int .i64 0)) 4 (.int .i64 0)).1
    go_wp2
    exact hs_done BR.out (hX.trans XR.out) rfl rfl _ (ha_no (by rw [HC]; exact hc)) _ HC

end Go.Proofs.YtlheppblioglpaaGreat.Hul
