import Derived.Test.YtmlojndkpnhalaaGreatMPts
import Derived.Test.YtmlojndkpnhalaaGreatOrd
import Derived.Deep.QuietTactic
import Derived.BigQuiet
import Derived.Deep.LoopGhost
import Derived.OwnWalk
import Derived.Laws.OwnMore
import Derived.IntWalk
import Derived.PlainAid
import Derived.Lib.SmallJoins
import Derived.OpenShut
import Derived.Deep.Slices
import Derived.Deep.Fields
import Derived.ChangeSame
import Derived.Laws.EntriesVeiled
import Derived.Laws.StructEq
namespace Go.Proofs.YtmlojndkpnhalaaGreat.Crs
open Go.ChangeShapes Go.WideShapes Go.ChangeAt Go.RowKit
open Go.Proofs.YtmlojndkpnhalaaGreat.Num Go.Proofs.YtmlojndkpnhalaaGreat.Kit Go.Proofs.YtmlojndkpnhalaaGreat.Pts Go.Proofs.YtmlojndkpnhalaaGreat.Seg
set_option linter.unusedVariables false
set_option linter.unusedSimpArgs false
structure M5 where
  n : ByteArray
  x : Int
  y : Int
  s : Int
  z : Int
abbrev MkV (n : ByteArray) (x y s z : Int) : Value := .agg #[.string n, .int .i64 x, .int .i64 y, .int .i64 s, .int .i64 z]
abbrev MV (m : M5) : Value := MkV m.n m.x m.y m.s m.z
structure L4 where
  a : Int
  b : Int
  c : Int
  d : Int
abbrev LV (l : L4) : Value := Sg l.a l.b l.c l.d
abbrev CV (l k : L4) (v : Value) : Value := .agg #[.int .i64 l.a, .int .i64 l.b, .int .i64 l.c, .int .i64 l.d, .int .i64 k.a, .int .i64 k.b, .int .i64 k.c, .int .i64 k.d, v]
def mk (ms : List M5) (i : Nat) : M5 := ms.getD i ⟨⟨#[]⟩, 0, 0, 0, 0⟩
def At (w : World) (b o : Nat) (m : M5) : Prop := w.cell? ⟨b, o, none⟩ = some (.string m.n) ∧ w.cell? ⟨b, o + 1, none⟩ = some (.int .i64 m.x) ∧ w.cell? ⟨b, o + 2, none⟩ = some (.int .i64 m.y) ∧ w.cell? ⟨b, o + 3, none⟩ = some (.int .i64 m.s) ∧ w.cell? ⟨b, o + 4, none⟩ = some (.int .i64 m.z)
theorem At.ext {w w' : World} {b o : Nat} {m : M5} (h : At w b o m) (k : Ext w w') : At w' b o m := ⟨k.cellOf h.1, k.cellOf h.2.1, k.cellOf h.2.2.1, k.cellOf h.2.2.2.1, k.cellOf h.2.2.2.2⟩
def Fit (ms : List M5) : Prop := ∀ i, i < ms.length → (mk ms i).n.size ≤ maxLen
def Mks (w : World) (a : Option Addr) (ms : List M5) : Prop :=
  (ms.length ≤ maxLen ∧ Fit ms) ∧ (ms = [] ∨ ∃ b off, a = some ⟨b, off, none⟩ ∧ ∀ i, i < ms.length → At w b (off + i * 5) (mk ms i))
theorem Mks.ext {w w' : World} {a : Option Addr} {ms : List M5} (h : Mks w a ms) (k : Ext w w') : Mks w' a ms := by
  refine ⟨h.1, ?_⟩
  rcases h.2 with h | ⟨b, off, ha, h⟩
  · exact .inl h
  · exact .inr ⟨b, off, ha, fun i hi => (h i hi).ext k⟩
theorem Mks.row {w : World} {a : Option Addr} {ms : List M5} (h : Mks w a ms) (h0 : 0 < ms.length) : ∃ b off, a = some ⟨b, off, none⟩ ∧ ∀ i, i < ms.length → At w b (off + i * 5) (mk ms i) := by
  rcases h.2 with e | e
  · rw [e] at h0; simp at h0
  · exact e
def Own (w : World) (B : Nat) (ms : List M5) : Prop := ∀ i, i < ms.length → At w B (i * 5) (mk ms i) ∧ w.frozen? ⟨B, i * 5, none⟩ = false ∧ w.frozen? ⟨B, i * 5 + 1, none⟩ = false ∧ w.frozen? ⟨B, i * 5 + 2, none⟩ = false ∧ w.frozen? ⟨B, i * 5 + 3, none⟩ = false ∧ w.frozen? ⟨B, i * 5 + 4, none⟩ = false
theorem Own.ext {w w' : World} {B : Nat} {ms : List M5} (h : Own w B ms) (k : Ext w w') : Own w' B ms :=
  fun i hi => ⟨(h i hi).1.ext k, k.thawOf (h i hi).1.1 (h i hi).2.1, k.thawOf (h i hi).1.2.1 (h i hi).2.2.1, k.thawOf (h i hi).1.2.2.1 (h i hi).2.2.2.1, k.thawOf (h i hi).1.2.2.2.1 (h i hi).2.2.2.2.1, k.thawOf (h i hi).1.2.2.2.2 (h i hi).2.2.2.2.2⟩
theorem Own.mks {w : World} {B : Nat} {ms : List M5} (h : Own w B ms) (hl : ms.length ≤ maxLen ∧ Fit ms) : Mks w (some ⟨B, 0, none⟩) ms :=
  ⟨hl, .inr ⟨B, 0, rfl, fun i hi => by rw [Nat.zero_add]; exact (h i hi).1⟩⟩
theorem Own.away {w w' : World} {B n : Nat} {ms : List M5} (h : Own w B ms) (k : Chg n w w') (hn : B ≠ n) : Own w' B ms :=
  fun i hi => ⟨⟨k.cellOf hn (h i hi).1.1, k.cellOf hn (h i hi).1.2.1, k.cellOf hn (h i hi).1.2.2.1, k.cellOf hn (h i hi).1.2.2.2.1, k.cellOf hn (h i hi).1.2.2.2.2⟩, k.thawOf hn (h i hi).1.1 (h i hi).2.1, k.thawOf hn (h i hi).1.2.1 (h i hi).2.2.1, k.thawOf hn (h i hi).1.2.2.1 (h i hi).2.2.2.1, k.thawOf hn (h i hi).1.2.2.2.1 (h i hi).2.2.2.2.1, k.thawOf hn (h i hi).1.2.2.2.2 (h i hi).2.2.2.2.2⟩
def szT (m : Int) (ms : List M5) : Nat → Int
  | 0 => m
  | i + 1 => szT m ms i - (mk ms i).n.size
def szR (m : Int) (ms : List M5) : Int := if szT (m - ms.length) ms ms.length < 0 then -1 else szT (m - ms.length) ms ms.length
theorem szT_anti (m : Int) (ms : List M5) : ∀ i j, i ≤ j → szT m ms j ≤ szT m ms i
  | i, 0, h => by
    obtain rfl : i = 0 := by omega
    exact Int.le_refl _
  | i, j + 1, h => by
    by_cases e : i = j + 1
    · rw [e]; exact Int.le_refl _
    · have := szT_anti m ms i j (by omega)
      have e2 : szT m ms (j + 1) = szT m ms j - (mk ms j).n.size := rfl
      omega
theorem szT_le (m : Int) (ms : List M5) (i : Nat) : szT m ms i ≤ m := szT_anti m ms 0 i (Nat.zero_le _)
theorem szT_size (m : Int) (ms : List M5) : ∀ n i, i < n → 0 ≤ szT m ms n → ((mk ms i).n.size : Int) ≤ m := by
  intro n i hi h
  have h1 := szT_anti m ms (i + 1) n (by omega)
  have h2 := szT_le m ms i
  have e2 : szT m ms (i + 1) = szT m ms i - (mk ms i).n.size := rfl
  omega
theorem szMark_any (n : ByteArray) (x y s z m : Int) (w : World) (hn : n.size ≤ maxLen) (h0 : 0 ≤ m) (hm : m ≤ 1048576) :
    Calls Tryz.prog 175 #[MkV n x y s z, .int .i64 m] w fun e w' => e = .returned (.int .i64 (if m - n.size < 0 then -1 else m - n.size)) ∧ Ext w w' := by
  unfold maxLen at hn
  by_cases h : m - n.size < 0
  · rw [if_pos h]
    go_enter Tryz.func175, Tryz.ntmps175
    go_wp2
    go_ret
    exact ⟨rfl, (by repeat (first | exact Ext.refl _ | assumption | apply Ext.alloc | apply Ext.drew | (refine Ext.trans ?_ (by assumption)) | (refine Ext.setNew ?_ (by simp <;> omega) _)))⟩
  · rw [if_neg h]
    go_enter Tryz.func175, Tryz.ntmps175
    go_wp2
    go_ret
    exact ⟨rfl, (by repeat (first | exact Ext.refl _ | assumption | apply Ext.alloc | apply Ext.drew | (refine Ext.trans ?_ (by assumption)) | (refine Ext.setNew ?_ (by simp <;> omega) _)))⟩
def RelZ (w : World) (ms : List M5) (m : Int) (l i : Value) (wr : World) : Prop := ∃ k : Nat, i = .int .i64 k ∧ k ≤ ms.length ∧ l = .int .i64 (szT (m - ms.length) ms k) ∧ 0 ≤ szT (m - ms.length) ms k ∧ Ext w wr
theorem szMarkS_any (a : Option Addr) (cap : Nat) (ms : List M5) (m : Int) (w : World) (hf : Mks w a ms) (h0 : 0 ≤ m) (hm : m ≤ 1048576) :
    Calls Tryz.prog 100 #[.slice a ms.length cap, .int .i64 m] w fun e w' => e = .returned (.int .i64 (szR m ms)) ∧ Ext w w' := by
  have hl := hf.1.1
  unfold maxLen at hl
  have HF := Lib.hid hf
  clear hf
  by_cases h : m - ms.length < 0
  · have H := Lib.hid (show szR m ms = -1 by unfold szR; have := szT_le (m - ms.length) ms ms.length; rw [if_pos (by omega)])
    go_enter Tryz.func100, Tryz.ntmps100
    go_wp2
    go_ret
    exact ⟨ret_int H.out, (by repeat (first | exact Ext.refl _ | assumption | apply Ext.alloc | apply Ext.drew | (refine Ext.trans ?_ (by assumption)) | (refine Ext.setNew ?_ (by simp <;> omega) _)))⟩
  · have e0 : szT (m - ms.length) ms 0 = m - ms.length := rfl
    go_enter Tryz.func100, Tryz.ntmps100
    go_wp2
    go_loopw [1, 5] (fun l i wr => RelZ w ms m l i wr) (fun l i _ => ms.length - (intOf i).toNat)
    case atStart => exact ⟨0, rfl, Nat.zero_le _, by rw [e0], by omega, Ext.refl _⟩
    case round =>
      obtain ⟨k, rfl, hk, rfl, hz, hx⟩ := hrel
      have HX := Lib.hid hx
      clear hx
      have hz2 := szT_le (m - ms.length) ms k
      have e1 : szT (m - ms.length) ms (k + 1) = szT (m - ms.length) ms k - (mk ms k).n.size := rfl
      by_cases hk1 : k < ms.length
      · obtain ⟨b, off, rfl, hb⟩ := HF.out.row (by omega)
        obtain ⟨c0, c1, c2, c3, c4⟩ := (hb k hk1).ext HX.out
        have hn := HF.out.1.2 k hk1
        have i0 : (0 : Int) ≤ (k : Int) := by omega
        have i1 : (k : Int) < (ms.length : Int) := by omega
        have T7 : IntKind.i64.wrap ((k : Int) + 1) = (k : Int) + 1 := IntWalk.i64_in _ (by omega)
        clear hb
        by_cases hn2 : szT (m - ms.length) ms (k + 1) < 0
        · have H := Lib.hid (show szR m ms = -1 by unfold szR; have := szT_anti (m - ms.length) ms (k + 1) ms.length (by omega); rw [if_pos (by omega)])
          have hn3 : szT (m - ms.length) ms k - (mk ms k).n.size < 0 := by omega
          clear e1
          generalize szT (m - ms.length) ms k = S at *
          go_wp2_with fail
          refine (szMark_any _ _ _ _ _ _ _ hn hz (by omega)).mono ?_
          rw [if_pos hn3]
          rintro e w1 ⟨rfl, hy⟩
          go_wp2
          go_ret
          exact ⟨ret_int H.out, HX.out.trans hy⟩
        · have hn3 : ¬ szT (m - ms.length) ms k - (mk ms k).n.size < 0 := by omega
          have HE := Lib.hid e1
          have HZ := Lib.hid (show 0 ≤ szT (m - ms.length) ms (k + 1) by omega)
          clear e1 hn2
          generalize szT (m - ms.length) ms k = S at *
          go_wp2_with fail
          refine (szMark_any _ _ _ _ _ _ _ hn hz (by omega)).mono ?_
          rw [if_neg (by omega)]
          rintro e w1 ⟨rfl, hy⟩
          have hd : decide (S - ((mk ms k).n.size : Int) < 0) = false := decide_eq_false (by omega)
          go_wp2
          go_roundw
          case rel => exact ⟨k + 1, by go_num, by omega, by rw [HE.out], HZ.out, HX.out.trans hy⟩
          case measure => simp [intOf]; omega
      · obtain rfl : k = ms.length := by omega
        have H := Lib.hid (show szR m ms = szT (m - ms.length) ms ms.length by unfold szR; rw [if_neg (by omega)])
        clear e1
        generalize szT (m - ms.length) ms ms.length = S at *
        go_wp2
        go_ret
        exact ⟨ret_int H.out, HX.out⟩
theorem szR_yes {m : Int} {ms : List M5} (h : ¬ szR m ms < 0) (hm : 0 ≤ m) (h2 : m ≤ 1048576) : ms.length ≤ 1048576 ∧ ∀ i, i < ms.length → (mk ms i).n.size ≤ 1048576 := by
  unfold szR at h
  split at h
  · exact absurd (by decide) h
  · rename_i h3
    have h4 := szT_le (m - ms.length) ms ms.length
    exact ⟨by omega, fun i hi => by have := szT_size (m - ms.length) ms ms.length i hi (by omega); omega⟩
theorem szCourse_any (l k : L4) (a : Option Addr) (cap : Nat) (ms : List M5) (m : Int) (w : World) (hf : Mks w a ms) (h0 : 0 ≤ m) (hm : m ≤ 1048576) :
    Calls Tryz.prog 38 #[CV l k (.slice a ms.length cap), .int .i64 m] w fun e w' => e = .returned (.int .i64 (if szR m ms < 0 then -1 else szR m ms)) ∧ Ext w w' := by
  have HF := Lib.hid hf
  clear hf
  have PS := Lib.hid (fun w (h : Mks w a ms) => szMarkS_any a cap ms m w h h0 hm)
  obtain ⟨S, hS⟩ : ∃ S, S = szR m ms := ⟨_, rfl⟩
  rw [← hS] at PS ⊢
  clear hS
  by_cases h : S < 0
  · rw [if_pos h]
    go_enter Tryz.func38, Tryz.ntmps38
    go_wp2_with fail
    refine (PS.out _ (HF.out.ext (by repeat (first | exact Ext.refl _ | assumption | apply Ext.alloc | apply Ext.drew | (refine Ext.trans ?_ (by assumption)) | (refine Ext.setNew ?_ (by simp <;> omega) _))))).mono ?_
    rintro e w1 ⟨rfl, hx⟩
    go_wp2
    go_ret
    exact ⟨rfl, (by repeat (first | exact Ext.refl _ | assumption | apply Ext.alloc | apply Ext.drew | (refine Ext.trans ?_ (by assumption)) | (refine Ext.setNew ?_ (by simp <;> omega) _)))⟩
  · rw [if_neg h]
    go_enter Tryz.func38, Tryz.ntmps38
    go_wp2_with fail
    refine (PS.out _ (HF.out.ext (by repeat (first | exact Ext.refl _ | assumption | apply Ext.alloc | apply Ext.drew | (refine Ext.trans ?_ (by assumption)) | (refine Ext.setNew ?_ (by simp <;> omega) _))))).mono ?_
    rintro e w1 ⟨rfl, hx⟩
    go_wp2
    go_ret
    exact ⟨rfl, (by repeat (first | exact Ext.refl _ | assumption | apply Ext.alloc | apply Ext.drew | (refine Ext.trans ?_ (by assumption)) | (refine Ext.setNew ?_ (by simp <;> omega) _)))⟩
theorem Box.five {w : World} {n : Nat} {a b c d e : Value} (h : Box w n [a, b, c, d, e]) :
    (w.cell? ⟨n, 0, none⟩ = some a ∧ w.cell? ⟨n, 1, none⟩ = some b ∧ w.cell? ⟨n, 2, none⟩ = some c ∧ w.cell? ⟨n, 3, none⟩ = some d ∧ w.cell? ⟨n, 4, none⟩ = some e) ∧
    w.frozen? ⟨n, 0, none⟩ = false ∧ w.frozen? ⟨n, 1, none⟩ = false ∧ w.frozen? ⟨n, 2, none⟩ = false ∧ w.frozen? ⟨n, 3, none⟩ = false ∧ w.frozen? ⟨n, 4, none⟩ = false :=
  ⟨⟨(h 0 _ rfl).1, (h 1 _ rfl).1, (h 2 _ rfl).1, (h 3 _ rfl).1, (h 4 _ rfl).1⟩, (h 0 _ rfl).2, (h 1 _ rfl).2, (h 2 _ rfl).2, (h 3 _ rfl).2, (h 4 _ rfl).2⟩
theorem mark_done {n : Nat} {w F : World} {tmps : Array Value} {a : ByteArray} {x y s z : Int} (B : Box F n [.string a, .int .i64 x, .int .i64 y, .int .i64 s, .int .i64 z]) (hC : Ext w F) (ha : tmps[2]? = some (.pointer (some ⟨n, 0, none⟩))) :
    bodyPost Tryz.prog Tryz.f177 (fun e w' => e = .returned (MkV a x y s z) ∧ Ext w w') Exit.ret ⟨tmps, []⟩ F := by
  obtain ⟨⟨g0, g1, g2, g3, g4⟩, _⟩ := Box.five B
  exact bodyPost_ret (v := MkV a x y s z) (by simp [results, Tryz.results177, go_sem, ha, g0, g1, g2, g3, g4]) rfl ⟨rfl, hC⟩
abbrev zeroM : Array Value := #[.string ⟨#[]⟩, .int .i64 0, .int .i64 0, .int .i64 0, .int .i64 0]
theorem toMark_any (n : ByteArray) (x y s z : Int) (w : World) : Calls Tryz.prog 177 #[MkV n x y s z] w fun e w' => e = .returned (MkV n x y s z) ∧ Ext w w' := by
  go_enter Tryz.func177, Tryz.ntmps177
  go_wp2_with fail
  refine (toPoint_any _ _ _).mono ?_
  rintro e w1 ⟨rfl, hx⟩
  have B0 := (((Box.new (w := w) (n := w.heap.size) (vs := [.string n, .int .i64 x, .int .i64 y, .int .i64 s, .int .i64 z]) (t := 249) rfl).alloc _).alloc _).ext hx
  have B1 := ((Box.new (w := w.alloc (.cells #[.string n, .int .i64 x, .int .i64 y, .int .i64 s, .int .i64 z] 249)) (n := w.heap.size + 1) (vs := [.string ⟨#[]⟩, .int .i64 0, .int .i64 0, .int .i64 0, .int .i64 0]) (t := 145) (by simp)).alloc _).ext hx
  have B2 := (Box.new (w := (w.alloc (.cells #[.string n, .int .i64 x, .int .i64 y, .int .i64 s, .int .i64 z] 249)).alloc (.cells zeroM 145)) (n := w.heap.size + 1 + 1) (vs := [.string n, .int .i64 0, .int .i64 0, .int .i64 0, .int .i64 0]) (t := 145) (by simp)).ext hx
  replace hx := (((Ext.refl w).alloc _).alloc _).alloc _ |>.trans hx
  obtain ⟨⟨p0, p1, p2, p3, p4⟩, _⟩ := Box.five B0
  obtain ⟨⟨h0, h1, h2, h3, h4⟩, f0, f1, f2, f3, f4⟩ := Box.five B1
  obtain ⟨⟨i0, i1, i2, i3, i4⟩, j0, j1, j2, j3, j4⟩ := Box.five B2
  have HB1 := Lib.hid (fun (k1 k2 k3 k4 : Value) => (((((((((B1.away (p := ⟨w.heap.size + 1 + 1, 1, none⟩) (by simp) k1).away (p := ⟨w.heap.size + 1 + 1, 2, none⟩) (by simp) k2).away (p := ⟨w.heap.size + 1 + 1, 3, none⟩) (by simp) k3).away (p := ⟨w.heap.size + 1 + 1, 4, none⟩) (by simp) k4).set 0 (by simp) (.string n)).set 1 (by simp) (.int .i64 x)).set 2 (by simp) (.int .i64 y)).set 3 (by simp) (.int .i64 s)).set 4 (by simp) (.int .i64 z)))
  clear B0 B1 B2
  go_wp2
  refine mark_done (HB1.out _ _ _ _) ?_ rfl
  exact ((((((((hx.setNew (p := ⟨w.heap.size + 1 + 1, 1, none⟩) (by simp; omega) _).setNew (p := ⟨w.heap.size + 1 + 1, 2, none⟩) (by simp; omega) _).setNew (p := ⟨w.heap.size + 1 + 1, 3, none⟩) (by simp; omega) _).setNew (p := ⟨w.heap.size + 1 + 1, 4, none⟩) (by simp; omega) _).setNew (p := ⟨w.heap.size + 1, 0, none⟩) (by simp) _).setNew (p := ⟨w.heap.size + 1, 1, none⟩) (by simp) _).setNew (p := ⟨w.heap.size + 1, 2, none⟩) (by simp) _).setNew (p := ⟨w.heap.size + 1, 3, none⟩) (by simp) _).setNew (p := ⟨w.heap.size + 1, 4, none⟩) (by simp) _
abbrev put5 (w : World) (B o : Nat) (a b c d e : Value) : World := ((((w.setCell ⟨B, o, none⟩ a).setCell ⟨B, o + 1, none⟩ b).setCell ⟨B, o + 2, none⟩ c).setCell ⟨B, o + 3, none⟩ d).setCell ⟨B, o + 4, none⟩ e
theorem set_other (W : World) (B p q : Nat) (u : Value) (h : p ≠ q) : (W.setCell ⟨B, p, none⟩ u).cell? ⟨B, q, none⟩ = W.cell? ⟨B, q, none⟩ := World.cell?_setCell_other _ _ _ _ (by simp <;> omega)
theorem put5_other (w : World) (B o q : Nat) (a b c d e : Value) (h : q < o ∨ o + 5 ≤ q) : (put5 w B o a b c d e).cell? ⟨B, q, none⟩ = w.cell? ⟨B, q, none⟩ := by
  unfold put5
  rw [set_other _ _ _ _ _ (by omega), set_other _ _ _ _ _ (by omega), set_other _ _ _ _ _ (by omega), set_other _ _ _ _ _ (by omega), set_other _ _ _ _ _ (by omega)]
theorem put5_frozen (w : World) (B o q : Nat) (a b c d e : Value) : (put5 w B o a b c d e).frozen? ⟨B, q, none⟩ = w.frozen? ⟨B, q, none⟩ := by
  simp only [put5, World.frozen?_setCell]
theorem put5_at {w : World} {B o : Nat} (h : ∀ r, r < 5 → ∃ v, w.cell? ⟨B, o + r, none⟩ = some v) (a b c d e : Value) :
    (put5 w B o a b c d e).cell? ⟨B, o, none⟩ = some a ∧ (put5 w B o a b c d e).cell? ⟨B, o + 1, none⟩ = some b ∧ (put5 w B o a b c d e).cell? ⟨B, o + 2, none⟩ = some c ∧ (put5 w B o a b c d e).cell? ⟨B, o + 3, none⟩ = some d ∧ (put5 w B o a b c d e).cell? ⟨B, o + 4, none⟩ = some e := by
  obtain ⟨v0, d0⟩ := h 0 (by omega)
  obtain ⟨v1, d1⟩ := h 1 (by omega)
  obtain ⟨v2, d2⟩ := h 2 (by omega)
  obtain ⟨v3, d3⟩ := h 3 (by omega)
  obtain ⟨v4, d4⟩ := h 4 (by omega)
  rw [Nat.add_zero] at d0
  unfold put5
  refine ⟨?_, ?_, ?_, ?_, ?_⟩
  · rw [set_other _ _ _ _ _ (by omega), set_other _ _ _ _ _ (by omega), set_other _ _ _ _ _ (by omega), set_other _ _ _ _ _ (by omega)]
    exact World.cell?_setCell_same _ _ _ d0
  · rw [set_other _ _ _ _ _ (by omega), set_other _ _ _ _ _ (by omega), set_other _ _ _ _ _ (by omega)]
    exact World.cell?_setCell_same _ _ _ (by rw [set_other _ _ _ _ _ (by omega)]; exact d1)
  · rw [set_other _ _ _ _ _ (by omega), set_other _ _ _ _ _ (by omega)]
    exact World.cell?_setCell_same _ _ _ (by rw [set_other _ _ _ _ _ (by omega), set_other _ _ _ _ _ (by omega)]; exact d2)
  · rw [set_other _ _ _ _ _ (by omega)]
    exact World.cell?_setCell_same _ _ _ (by rw [set_other _ _ _ _ _ (by omega), set_other _ _ _ _ _ (by omega), set_other _ _ _ _ _ (by omega)]; exact d3)
  · exact World.cell?_setCell_same _ _ _ (by rw [set_other _ _ _ _ _ (by omega), set_other _ _ _ _ _ (by omega), set_other _ _ _ _ _ (by omega), set_other _ _ _ _ _ (by omega)]; exact d4)
def NewM (w : World) (ms : List M5) (e : Ending) (w' : World) : Prop := ∃ B, e = .returned (.slice (some ⟨B, 0, none⟩) ms.length ms.length) ∧ w.heap.size ≤ B ∧ Own w' B ms ∧ Ext w w'
def RelT (w : World) (ms : List M5) (i : Value) (wr : World) : Prop :=
  ∃ k : Nat, i = .int .i64 k ∧ k ≤ ms.length ∧ (∀ j, j < ms.length * 5 → (∃ v, wr.cell? ⟨w.heap.size, j, none⟩ = some v) ∧ wr.frozen? ⟨w.heap.size, j, none⟩ = false) ∧ (∀ j, j < k → At wr w.heap.size (j * 5) (mk ms j)) ∧ Ext w wr
theorem RelT.step {w wr w2 : World} {ms : List M5} {k : Nat} (hk : k < ms.length) (hc : ∀ j, j < ms.length * 5 → (∃ v, wr.cell? ⟨w.heap.size, j, none⟩ = some v) ∧ wr.frozen? ⟨w.heap.size, j, none⟩ = false)
    (hd : ∀ j, j < k → At wr w.heap.size (j * 5) (mk ms j)) (hx : Ext w wr) (hy : Ext wr w2) :
    RelT w ms (.int .i64 (k + 1)) (put5 w2 w.heap.size (k * 5) (.string (mk ms k).n) (.int .i64 (mk ms k).x) (.int .i64 (mk ms k).y) (.int .i64 (mk ms k).s) (.int .i64 (mk ms k).z)) := by
  have hc2 : ∀ j, j < ms.length * 5 → (∃ v, w2.cell? ⟨w.heap.size, j, none⟩ = some v) ∧ w2.frozen? ⟨w.heap.size, j, none⟩ = false := fun j hj => by
    obtain ⟨⟨v, hv⟩, hf⟩ := hc j hj
    exact ⟨⟨v, hy.cellOf hv⟩, hy.thawOf hv hf⟩
  have P := put5_at (w := w2) (B := w.heap.size) (o := k * 5) (fun r hr => (hc2 (k * 5 + r) (by omega)).1) (.string (mk ms k).n) (.int .i64 (mk ms k).x) (.int .i64 (mk ms k).y) (.int .i64 (mk ms k).s) (.int .i64 (mk ms k).z)
  refine ⟨k + 1, by go_num, by omega, fun j hj => ⟨?_, by rw [put5_frozen]; exact (hc2 j hj).2⟩, fun j hj => ?_, ?_⟩
  · by_cases h : j < k * 5 ∨ k * 5 + 5 ≤ j
    · rw [put5_other _ _ _ _ _ _ _ _ _ h]; exact (hc2 j hj).1
    · rcases (show j = k * 5 ∨ j = k * 5 + 1 ∨ j = k * 5 + 2 ∨ j = k * 5 + 3 ∨ j = k * 5 + 4 by omega) with e | e | e | e | e
      · rw [e]; exact ⟨_, P.1⟩
      · rw [e]; exact ⟨_, P.2.1⟩
      · rw [e]; exact ⟨_, P.2.2.1⟩
      · rw [e]; exact ⟨_, P.2.2.2.1⟩
      · rw [e]; exact ⟨_, P.2.2.2.2⟩
  · by_cases h : j = k
    · subst h; exact P
    · obtain ⟨g0, g1, g2, g3, g4⟩ := (hd j (by omega)).ext hy
      refine ⟨?_, ?_, ?_, ?_, ?_⟩
      all_goals
        rw [put5_other _ _ _ _ _ _ _ _ _ (by omega)]; assumption
  · exact (((((hx.trans hy).setNew (Nat.le_refl _) _).setNew (Nat.le_refl _) _).setNew (Nat.le_refl _) _).setNew (Nat.le_refl _) _).setNew (Nat.le_refl _) _
theorem markInfo : (Tryz.prog.info? 145).map (fun i => (i.zero, i.size, i.bytes)) = some (some (.agg zeroM), 5, 48) := by kernel_rfl
theorem Ext.grown {w w' : World} (h : w.grownBy w' none) : Ext w w' := by
  obtain ⟨h1, h2, h3, h4, h5⟩ := h
  exact ⟨h1, h2, h3, h4, fun i hi => h5 i hi (by simp)⟩
theorem madeAt {w' : World} {e : TypeId} {n b g : Nat} {z : Value} (h : w'.ownsRow b e 5 (.slice (some ⟨g, 0, none⟩) n n) n (madeCells z.cells (n * 5)).toList) (j : Nat) (hj : j < n * 5) :
    (∃ v, w'.cell? ⟨g, j, none⟩ = some v) ∧ w'.frozen? ⟨g, j, none⟩ = false := by
  refine ⟨?_, h.frozenAt j⟩
  rw [h.cellAt j hj]
  exact ⟨_, List.getElem?_eq_getElem (by simpa [size_madeCells] using hj)⟩
set_option maxHeartbeats 800000 in
theorem toMarkS_any (a : Option Addr) (cap : Nat) (ms : List M5) (w : World) (hf : Mks w a ms) (hl : ms.length ≤ 1048576) : Calls Tryz.prog 102 #[.slice a ms.length cap] w (NewM w ms) := by
  have HF := Lib.hid hf
  have hm : ms.length ≤ 1000000000 := by omega
  clear hf hl
  obtain ⟨i0, hi, hz0, hz1, hz2⟩ := info_parts markInfo
  go_enter Tryz.func102, Tryz.ntmps102
  go_wp2_with (at_make; refine wpList_make_full _ rfl _ _ 28 rfl w.heap.size 145 i0 (.agg zeroM) 5 Tryz.underlying28 hi hz0 hz1 _ _ _ _ ms.length rfl rfl rfl rfl (by rw [hz2]; omega) (by unfold maxLen; omega) (Nat.le_refl _) ?_; intro w1 hown hgrow)
  have HO := Lib.hid hown
  have HG := Lib.hid (Ext.grown hgrow)
  clear hown hgrow
  go_loopw [4] (fun i wr => RelT w ms i wr) (fun i _ => ms.length - (intOf i).toNat)
  case atStart => exact ⟨0, rfl, Nat.zero_le _, fun j hj => madeAt HO.out j hj, fun j hj => absurd hj (by omega), HG.out⟩
  case round =>
    obtain ⟨k, rfl, hk, hc, hd, hx⟩ := hrel
    have HC := Lib.hid hc
    have HD := Lib.hid hd
    have HX := Lib.hid hx
    clear hc hd hx
    by_cases hk1 : k < ms.length
    · obtain ⟨b, off, rfl, hb⟩ := HF.out.row (by omega)
      obtain ⟨c0, c1, c2, c3, c4⟩ := (hb k hk1).ext HX.out
      clear hb
      go_wp2_with fail
      refine (toMark_any _ _ _ _ _ _).mono ?_
      rintro e w2 ⟨rfl, hy⟩
      obtain ⟨⟨v0, d0⟩, f0⟩ := HC.out (k * 5) (by omega)
      obtain ⟨⟨v1, d1⟩, f1⟩ := HC.out (k * 5 + 1) (by omega)
      obtain ⟨⟨v2, d2⟩, f2⟩ := HC.out (k * 5 + 2) (by omega)
      obtain ⟨⟨v3, d3⟩, f3⟩ := HC.out (k * 5 + 3) (by omega)
      obtain ⟨⟨v4, d4⟩, f4⟩ := HC.out (k * 5 + 4) (by omega)
      replace f0 := hy.thawOf d0 f0
      replace f1 := hy.thawOf d1 f1
      replace f2 := hy.thawOf d2 f2
      replace f3 := hy.thawOf d3 f3
      replace f4 := hy.thawOf d4 f4
      replace d0 := hy.cellOf d0
      replace d1 := hy.cellOf d1
      replace d2 := hy.cellOf d2
      replace d3 := hy.cellOf d3
      replace d4 := hy.cellOf d4
      have HY := Lib.hid hy
      clear hy c0 c1 c2 c3 c4
      go_wp2
      go_roundw
      case rel => exact RelT.step hk1 HC.out HD.out HX.out HY.out
      case measure => simp [intOf]; omega
    · obtain rfl : k = ms.length := by omega
      go_wp2
      go_ret
      exact ⟨w.heap.size, rfl, Nat.le_refl _, fun j hj => ⟨HD.out j hj, (HC.out _ (by omega)).2, (HC.out _ (by omega)).2, (HC.out _ (by omega)).2, (HC.out _ (by omega)).2, (HC.out _ (by omega)).2⟩, HX.out⟩
theorem eqMark_same (n : ByteArray) (x y s z : Int) (w : World) : Calls Tryz.prog 179 #[MkV n x y s z, MkV n x y s z] w fun e w' => e = .returned (.bool true) ∧ Ext w w' := by
  go_enter Tryz.func179, Tryz.ntmps179
  go_wp2_with fail
  refine (eqPoint_same _ _ _).mono ?_
  rintro e w1 ⟨rfl, hx⟩
  have B0 := ((Box.new (w := w) (n := w.heap.size) (vs := [.string n, .int .i64 x, .int .i64 y, .int .i64 s, .int .i64 z]) (t := 145) rfl).alloc _).ext hx
  have B1 := (Box.new (w := w.alloc (.cells #[.string n, .int .i64 x, .int .i64 y, .int .i64 s, .int .i64 z] 145)) (n := w.heap.size + 1) (vs := [.string n, .int .i64 x, .int .i64 y, .int .i64 s, .int .i64 z]) (t := 145) (by simp)).ext hx
  obtain ⟨⟨p0, p1, p2, p3, p4⟩, _⟩ := Box.five B0
  obtain ⟨⟨q0, q1, q2, q3, q4⟩, _⟩ := Box.five B1
  clear B0 B1
  go_wp2
  go_ret
  exact ⟨rfl, (by repeat (first | exact Ext.refl _ | assumption | apply Ext.alloc | apply Ext.drew | (refine Ext.trans ?_ (by assumption)) | (refine Ext.setNew ?_ (by simp <;> omega) _)))⟩
def RelE (w : World) (n : Nat) (i : Value) (wr : World) : Prop := ∃ k : Nat, i = .int .i64 k ∧ k ≤ n ∧ Ext w wr
set_option maxHeartbeats 800000 in
theorem eqMarkS_same (a b : Option Addr) (cap cap' : Nat) (ms : List M5) (w : World) (ha : Mks w a ms) (hb : Mks w b ms) : Calls Tryz.prog 104 #[.slice a ms.length cap, .slice b ms.length cap'] w fun e w' => e = .returned (.bool true) ∧ Ext w w' := by
  have hm := ha.1.1
  unfold maxLen at hm
  have HA := Lib.hid ha
  have HB := Lib.hid hb
  clear ha hb
  go_enter Tryz.func104, Tryz.ntmps104
  go_wp2
  go_loopw [5] (fun i wr => RelE w ms.length i wr) (fun i _ => ms.length - (intOf i).toNat)
  case atStart => exact ⟨0, rfl, Nat.zero_le _, Ext.refl _⟩
  case round =>
    obtain ⟨k, rfl, hk, hx⟩ := hrel
    have HX := Lib.hid hx
    clear hx
    by_cases hk1 : k < ms.length
    · obtain ⟨b1, o1, rfl, h1⟩ := HA.out.row (by omega)
      obtain ⟨b2, o2, rfl, h2⟩ := HB.out.row (by omega)
      obtain ⟨c0, c1, c2, c3, c4⟩ := (h1 k hk1).ext HX.out
      obtain ⟨d0, d1, d2, d3, d4⟩ := (h2 k hk1).ext HX.out
      clear h1 h2
      have i0 : (0 : Int) ≤ (k : Int) := by omega
      have i1 : (k : Int) < (ms.length : Int) := by omega
      go_wp2_with fail
      refine wp_region_held_drew (S := (fun w' => w'.cell? ⟨b1, o1 + k * 5, none⟩ = some (.string (mk ms k).n) ∧ w'.cell? ⟨b1, o1 + k * 5 + 1, none⟩ = some (.int .i64 (mk ms k).x) ∧ w'.cell? ⟨b1, o1 + k * 5 + 2, none⟩ = some (.int .i64 (mk ms k).y) ∧ w'.cell? ⟨b1, o1 + k * 5 + 3, none⟩ = some (.int .i64 (mk ms k).s) ∧ w'.cell? ⟨b1, o1 + k * 5 + 4, none⟩ = some (.int .i64 (mk ms k).z) ∧ w'.cell? ⟨b2, o2 + k * 5, none⟩ = some (.string (mk ms k).n) ∧ w'.cell? ⟨b2, o2 + k * 5 + 1, none⟩ = some (.int .i64 (mk ms k).x) ∧ w'.cell? ⟨b2, o2 + k * 5 + 2, none⟩ = some (.int .i64 (mk ms k).y) ∧ w'.cell? ⟨b2, o2 + k * 5 + 3, none⟩ = some (.int .i64 (mk ms k).s) ∧ w'.cell? ⟨b2, o2 + k * 5 + 4, none⟩ = some (.int .i64 (mk ms k).z))) (by kernel_rfl) (by (try dsimp only); first | go_keep | exact (Ext.refl _).drew | exact Res.new2.drew | exact Res.new4.drew | exact ResB.drew (by assumption) | exact ResC.drew (by assumption) | assumption | exact Ext.drew (by assumption) | exact Res.drew (by assumption)) (fun hHeld => ?_)
      refine Ord.K 0 17 ?_
      refine Ord.K 1 18 ?_
      refine Ord.K 2 19 ?_
      refine Ord.K 3 20 ?_
      refine Ord.K 4 21 ?_
      refine Ord.K 5 22 ?_
      refine Ord.K 6 23 ?_
      refine Ord.K 7 24 ?_
      (refine wpAnyH_ready (rs := [8]) (by kernel_rfl) (by simp) ?_; refine AllReadyH.cons rfl (fun K hK => ?_) AllReadyH.nil; go_simp; (go_at_call 179; refine (eqMark_same _ _ _ _ _ _).mono ?_; rintro e w1 ⟨rfl, hy⟩); go_wp2_with fail; (refine hK.out _ _ (by first | assumption | exact Ext.trans (by assumption) hy | exact Res.ext (by assumption) hy | exact ResB.ext (by assumption) hy | exact ResC.ext (by assumption) hy | (go_split_ands; (repeat' apply And.intro) <;> exact Ext.cellOf hy (by assumption))) (fun hHeld => ?_)); clear hK K; (try simp only [Act.put, Ord.a, Ord.b, Ord.c]))
      refine Ord.K 9 26 ?_
      refine wpAnyH_done (by kernel_rfl) ?_ _
      have HX2 := Lib.hid (HX.out.drew.trans hy)
      clear hy c0 c1 c2 c3 c4 d0 d1 d2 d3 d4
      go_wp2
      go_roundw
      case rel => exact ⟨k + 1, by go_num, by omega, HX2.out⟩
      case measure => simp [intOf]; omega
    · obtain rfl : k = ms.length := by omega
      go_wp2
      go_ret
      exact ⟨rfl, HX.out⟩
theorem eqLine_same (l : L4) (w : World) : Calls Tryz.prog 103 #[LV l, LV l] w fun e w' => e = .returned (.bool true) ∧ Ext w w' := by
  go_enter Tryz.func103, Tryz.ntmps103
  go_wp2_with (go_at_call 178; refine (eqPoint_same _ _ _).mono ?_; rintro e w1 ⟨rfl, hx⟩; obtain ⟨hc, hf⟩ := hx.facts; have hz := hx.size; (try simp at hz); (try (have hz0 : w.heap.size < w1.heap.size := by omega)); (try (have hz1 : w.heap.size + 1 < w1.heap.size := by omega)); (try (have hz2 : w.heap.size + 1 + 1 < w1.heap.size := by omega)); (try (have hz3 : w.heap.size + 1 + 1 + 1 < w1.heap.size := by omega)))
  go_ret
  exact ⟨rfl, (by repeat (first | exact Ext.refl _ | assumption | apply Ext.alloc | apply Ext.drew | (refine Ext.trans ?_ (by assumption)) | (refine Ext.setNew ?_ (by simp <;> omega) _)))⟩
end Go.Proofs.YtmlojndkpnhalaaGreat.Crs
namespace Go.Proofs.YtmlojndkpnhalaaGreat.Crs
open Go.ChangeShapes Go.WideShapes Go.ChangeAt Go.RowKit Go.PlainAid
open Go.Proofs.YtmlojndkpnhalaaGreat.Num Go.Proofs.YtmlojndkpnhalaaGreat.Kit Go.Proofs.YtmlojndkpnhalaaGreat.Pts Go.Proofs.YtmlojndkpnhalaaGreat.Seg
set_option linter.unusedVariables false
set_option linter.unusedSimpArgs false
def slB (n : Int) : Bool := inB n 97 122
def dgB (n : Int) : Bool := inB n 48 57
def chB (n : Int) : Bool := slB n || dgB n
def nmB (s : ByteArray) : Bool := decide (1 ≤ s.size) && (decide (s.size ≤ 8) && (slB (bt s 0) && (List.range s.size).all fun k => chB (bt s k)))
theorem nm_short {s : ByteArray} (h : s.size < 1) : nmB s = false := by unfold nmB; rw [decide_eq_false (by omega)]; rfl
theorem nm_long {s : ByteArray} (h : 8 < s.size) : nmB s = false := by unfold nmB; rw [decide_eq_false (p := s.size ≤ 8) (by omega)]; simp
theorem nm_first {s : ByteArray} (h : slB (bt s 0) = false) : nmB s = false := by unfold nmB; rw [h]; simp
theorem nm_no {s : ByteArray} {k : Nat} (hk : k < s.size) (h : chB (bt s k) = false) : nmB s = false := by
  unfold nmB
  rw [show ((List.range s.size).all fun k => chB (bt s k)) = false from List.all_eq_false.2 ⟨k, by simpa using hk, by simp [h]⟩]; simp
theorem nm_all {s : ByteArray} (h1 : 1 ≤ s.size) (h2 : s.size ≤ 8) (h3 : slB (bt s 0) = true) (h : ∀ k, k < s.size → chB (bt s k) = true) : nmB s = true := by
  unfold nmB
  rw [decide_eq_true h1, decide_eq_true h2, h3, show ((List.range s.size).all fun k => chB (bt s k)) = true from List.all_eq_true.2 fun k hk => h k (by simpa using hk)]; rfl
theorem small_any (n : Int) (w : World) : Calls Tryz.prog 348 #[.int .u8 n] w fun e w' => e = .returned (.bool (slB n)) ∧ w = w' := by
  by_cases h1 : 97 ≤ n
  · by_cases h2 : n ≤ 122
    · have H := Lib.hid (show slB n = true from inB_yes h1 h2)
      go_enter Tryz.func348, Tryz.ntmps348
      go_wp2
      go_ret
      exact ⟨ret_bool H.out, rfl⟩
    · have H := Lib.hid (show slB n = false from inB_no (fun h => h2 h.2))
      go_enter Tryz.func348, Tryz.ntmps348
      go_wp2
      go_ret
      exact ⟨ret_bool H.out, rfl⟩
  · have H := Lib.hid (show slB n = false from inB_no (fun h => h1 h.1))
    go_enter Tryz.func348, Tryz.ntmps348
    go_wp2
    go_ret
    exact ⟨ret_bool H.out, rfl⟩
theorem digit_any (n : Int) (w : World) : Calls Tryz.prog 349 #[.int .u8 n] w fun e w' => e = .returned (.bool (dgB n)) ∧ w = w' := by
  by_cases h1 : 48 ≤ n
  · by_cases h2 : n ≤ 57
    · have H := Lib.hid (show dgB n = true from inB_yes h1 h2)
      go_enter Tryz.func349, Tryz.ntmps349
      go_wp2
      go_ret
      exact ⟨ret_bool H.out, rfl⟩
    · have H := Lib.hid (show dgB n = false from inB_no (fun h => h2 h.2))
      go_enter Tryz.func349, Tryz.ntmps349
      go_wp2
      go_ret
      exact ⟨ret_bool H.out, rfl⟩
  · have H := Lib.hid (show dgB n = false from inB_no (fun h => h1 h.1))
    go_enter Tryz.func349, Tryz.ntmps349
    go_wp2
    go_ret
    exact ⟨ret_bool H.out, rfl⟩
theorem side_any (n : Int) (w : World) : Calls Tryz.prog 347 #[.int .i64 n] w fun e w' => e = .returned (.bool (inB n 1 2)) ∧ w = w' := by
  by_cases h1 : n = 1
  · have H := Lib.hid (show inB n 1 2 = true from inB_yes (by omega) (by omega))
    go_enter Tryz.func347, Tryz.ntmps347
    go_wp2
    go_ret
    exact ⟨ret_bool H.out, rfl⟩
  · by_cases h2 : n = 2
    · have H := Lib.hid (show inB n 1 2 = true from inB_yes (by omega) (by omega))
      go_enter Tryz.func347, Tryz.ntmps347
      go_wp2
      go_ret
      exact ⟨ret_bool H.out, rfl⟩
    · have H := Lib.hid (show inB n 1 2 = false from inB_no (by omega))
      have e1 : (n == 1) = false := by simp [h1]
      have e2 : (n == 2) = false := by simp [h2]
      go_enter Tryz.func347, Tryz.ntmps347
      go_wp2
      go_ret
      exact ⟨ret_bool H.out, rfl⟩
def RelN (w : World) (s : ByteArray) (i : Value) (wr : World) : Prop := ∃ k : Nat, i = .int .i64 k ∧ k ≤ s.size ∧ (∀ j, j < k → chB (bt s j) = true) ∧ w = wr
set_option maxHeartbeats 1000000 in
theorem name_impl (s : ByteArray) (w : World) (hs : s.size ≤ maxLen) : Calls Tryz.prog 346 #[.string s] w fun e w' => e = .returned (.bool (nmB s)) ∧ w = w' := by
  have hb := get_bt s
  unfold maxLen at hs
  by_cases h1 : s.size < 1
  · have H := Lib.hid (nm_short h1)
    have e1 : (s.size : Int) < 1 := by omega
    go_enter Tryz.func346, Tryz.ntmps346
    go_wp2
    go_ret
    exact ⟨ret_bool H.out, rfl⟩
  have e1 : ¬ (s.size : Int) < 1 := by omega
  have p0 : 0 < s.size := by omega
  have p1 : (0 : Int) < (s.size : Int) := by omega
  by_cases h8 : 8 < s.size
  · have H := Lib.hid (nm_long h8)
    have e2 : 8 < (s.size : Int) := by omega
    go_enter Tryz.func346, Tryz.ntmps346
    go_wp2
    go_ret
    exact ⟨ret_bool H.out, rfl⟩
  have e2 : ¬ 8 < (s.size : Int) := by omega
  cases h3 : slB (bt s 0)
  · have H := Lib.hid (nm_first h3)
    go_enter Tryz.func346, Tryz.ntmps346
    go_wp2_with (go_at_call 348; refine (small_any _ _).mono ?_; rw [h3]; rintro e w1 ⟨rfl, rfl⟩)
    go_ret
    exact ⟨ret_bool H.out, rfl⟩
  · go_enter Tryz.func346, Tryz.ntmps346
    go_wp2_with (go_at_call 348; refine (small_any _ _).mono ?_; rw [h3]; rintro e w1 ⟨rfl, rfl⟩)
    go_loopw [20] (fun i wr => RelN w s i wr) (fun i _ => s.size - (intOf i).toNat)
    case atStart => exact ⟨0, rfl, Nat.zero_le _, fun j hj => absurd hj (by omega), rfl⟩
    case round =>
      obtain ⟨k, rfl, hk, hd, rfl⟩ := hrel
      have HD := Lib.hid hd
      clear hd
      by_cases hk1 : k < s.size
      · have i0 : (0 : Int) ≤ (k : Int) := by omega
        have i1 : (k : Int) < (s.size : Int) := by omega
        have T7 : IntKind.i64.wrap ((k : Int) + 1) = (k : Int) + 1 := IntWalk.i64_in _ (by omega)
        cases c1 : slB (bt s k)
        · cases c2 : dgB (bt s k)
          · have H := Lib.hid (nm_no hk1 (show chB (bt s k) = false by unfold chB; rw [c1, c2]; rfl))
            go_wp2_with (first | (go_at_call 348; refine (small_any _ _).mono ?_; rw [c1]; rintro e w1 ⟨rfl, rfl⟩) | (go_at_call 349; refine (digit_any _ _).mono ?_; rw [c2]; rintro e w1 ⟨rfl, rfl⟩))
            go_ret
            exact ⟨ret_bool H.out, rfl⟩
          · have H := Lib.hid (show chB (bt s k) = true by unfold chB; rw [c1, c2]; rfl)
            go_wp2_with (first | (go_at_call 348; refine (small_any _ _).mono ?_; rw [c1]; rintro e w1 ⟨rfl, rfl⟩) | (go_at_call 349; refine (digit_any _ _).mono ?_; rw [c2]; rintro e w1 ⟨rfl, rfl⟩))
            go_roundw
            case rel => exact ⟨k + 1, by go_num, by omega, fun j hj => by rcases Nat.lt_or_ge j k with g | g; exact HD.out j g; exact (show j = k by omega) ▸ H.out, rfl⟩
            case measure => simp [intOf]; omega
        · have H := Lib.hid (show chB (bt s k) = true by unfold chB; rw [c1]; rfl)
          go_wp2_with (first | (go_at_call 348; refine (small_any _ _).mono ?_; rw [c1]; rintro e w1 ⟨rfl, rfl⟩) | (go_at_call 349; refine (digit_any _ _).mono ?_; rintro e w1 ⟨rfl, rfl⟩))
          go_roundw
          case rel => exact ⟨k + 1, by go_num, by omega, fun j hj => by rcases Nat.lt_or_ge j k with g | g; exact HD.out j g; exact (show j = k by omega) ▸ H.out, rfl⟩
          case measure => simp [intOf]; omega
      · obtain rfl : k = s.size := by omega
        have H := Lib.hid (nm_all (by omega) (by omega) h3 HD.out)
        go_wp2
        go_ret
        exact ⟨ret_bool H.out, rfl⟩
end Go.Proofs.YtmlojndkpnhalaaGreat.Crs
namespace Go.Proofs.YtmlojndkpnhalaaGreat.Crs
open Go.ChangeShapes Go.WideShapes Go.ChangeAt Go.RowKit Go.Deep
open Go.Proofs.YtmlojndkpnhalaaGreat.Num Go.Proofs.YtmlojndkpnhalaaGreat.Kit Go.Proofs.YtmlojndkpnhalaaGreat.Pts Go.Proofs.YtmlojndkpnhalaaGreat.Seg
set_option linter.unusedVariables false
set_option linter.unusedSimpArgs false
theorem Box.nine {w : World} {n : Nat} {a b c d e f g h i : Value} (B : Box w n [a, b, c, d, e, f, g, h, i]) :
    (w.cell? ⟨n, 0, none⟩ = some a ∧ w.cell? ⟨n, 1, none⟩ = some b ∧ w.cell? ⟨n, 2, none⟩ = some c ∧ w.cell? ⟨n, 3, none⟩ = some d ∧ w.cell? ⟨n, 4, none⟩ = some e ∧ w.cell? ⟨n, 5, none⟩ = some f ∧ w.cell? ⟨n, 6, none⟩ = some g ∧ w.cell? ⟨n, 7, none⟩ = some h ∧ w.cell? ⟨n, 8, none⟩ = some i) ∧
    w.frozen? ⟨n, 0, none⟩ = false ∧ w.frozen? ⟨n, 1, none⟩ = false ∧ w.frozen? ⟨n, 2, none⟩ = false ∧ w.frozen? ⟨n, 3, none⟩ = false ∧ w.frozen? ⟨n, 4, none⟩ = false ∧ w.frozen? ⟨n, 5, none⟩ = false ∧ w.frozen? ⟨n, 6, none⟩ = false ∧ w.frozen? ⟨n, 7, none⟩ = false ∧ w.frozen? ⟨n, 8, none⟩ = false :=
  ⟨⟨(B 0 _ rfl).1, (B 1 _ rfl).1, (B 2 _ rfl).1, (B 3 _ rfl).1, (B 4 _ rfl).1, (B 5 _ rfl).1, (B 6 _ rfl).1, (B 7 _ rfl).1, (B 8 _ rfl).1⟩, (B 0 _ rfl).2, (B 1 _ rfl).2, (B 2 _ rfl).2, (B 3 _ rfl).2, (B 4 _ rfl).2, (B 5 _ rfl).2, (B 6 _ rfl).2, (B 7 _ rfl).2, (B 8 _ rfl).2⟩
abbrev cellsC (l k : L4) (v : Value) : List Value := [.int .i64 l.a, .int .i64 l.b, .int .i64 l.c, .int .i64 l.d, .int .i64 k.a, .int .i64 k.b, .int .i64 k.c, .int .i64 k.d, v]
abbrev zeroL : L4 := ⟨0, 0, 0, 0⟩
abbrev put4 (w : World) (B o : Nat) (a b c d : Value) : World := (((w.setCell ⟨B, o, none⟩ a).setCell ⟨B, o + 1, none⟩ b).setCell ⟨B, o + 2, none⟩ c).setCell ⟨B, o + 3, none⟩ d
theorem Box.put4_away {w : World} {n B o : Nat} {vs : List Value} {a b c d : Value} (h : Box w n vs) (hn : B ≠ n) : Box (put4 w B o a b c d) n vs := (((h.away hn _).away hn _).away hn _).away hn _
theorem course_done {n : Nat} {F : World} {tmps : Array Value} {l k : L4} {v : Value} {Q : Ending → World → Prop} (B : Box F n (cellsC l k v)) (hQ : Q (.returned (CV l k v)) F) (ha : tmps[2]? = some (.pointer (some ⟨n, 0, none⟩))) :
    bodyPost Tryz.prog Tryz.f40 Q Exit.ret ⟨tmps, []⟩ F := by
  obtain ⟨⟨g0, g1, g2, g3, g4, g5, g6, g7, g8⟩, _⟩ := Box.nine B
  exact bodyPost_ret (v := CV l k v) (by simp [results, Tryz.results40, go_sem, ha, g0, g1, g2, g3, g4, g5, g6, g7, g8]) rfl hQ
theorem Own.set {w : World} {B n i : Nat} {ms : List M5} (h : Own w B ms) (hn : B ≠ n) (u : Value) : Own (w.setCell ⟨n, i, none⟩ u) B ms := h.away ((Chg.refl n w).setCell i u) hn
def NewC (w : World) (l k : L4) (ms : List M5) (e : Ending) (w' : World) : Prop := ∃ B, e = .returned (CV l k (.slice (some ⟨B, 0, none⟩) ms.length ms.length)) ∧ w.heap.size ≤ B ∧ Own w' B ms ∧ Ext w w'
set_option maxHeartbeats 1000000 in
theorem toCourse_any (l k : L4) (a : Option Addr) (cap : Nat) (ms : List M5) (w : World) (hf : Mks w a ms) (hl : ms.length ≤ 1048576) : Calls Tryz.prog 40 #[CV l k (.slice a ms.length cap)] w (NewC w l k ms) := by
  have HF := Lib.hid hf
  have HL := Lib.hid hl
  clear hf hl
  go_enter Tryz.func40, Tryz.ntmps40
  go_wp2_with fail
  refine (toLine_any _ _ _ _ _).mono ?_
  rintro e w1 ⟨rfl, hx⟩
  have B0 := Lib.hid ((((Box.new (w := w) (n := w.heap.size) (vs := cellsC l k (.slice a ms.length cap)) (t := 79) rfl).alloc _).alloc _).ext hx)
  have B1 := Lib.hid (((Box.new (w := w.alloc (.cells (cellsC l k (.slice a ms.length cap)).toArray 79)) (n := w.heap.size + 1) (vs := cellsC zeroL zeroL (.slice none 0 0)) (t := 30) (by simp)).alloc _).ext hx)
  have B2 := Lib.hid ((Box.new (w := (w.alloc (.cells (cellsC l k (.slice a ms.length cap)).toArray 79)).alloc (.cells (cellsC zeroL zeroL (.slice none 0 0)).toArray 30)) (n := w.heap.size + 1 + 1) (vs := cellsC zeroL zeroL (.slice none 0 0)) (t := 30) (by simp)).ext hx)
  have X := Lib.hid ((((Ext.refl w).alloc _).alloc _).alloc _ |>.trans hx)
  clear hx
  obtain ⟨⟨p0, p1, p2, p3, p4, p5, p6, p7, p8⟩, _⟩ := Box.nine B0.out
  obtain ⟨⟨i0, i1, i2, i3, i4, i5, i6, i7, i8⟩, j0, j1, j2, j3, j4, j5, j6, j7, j8⟩ := Box.nine B2.out
  go_wp2_with fail
  refine (toLine_any _ _ _ _ _).mono ?_
  rintro e w2 ⟨rfl, hx⟩
  clear p0 p1 p2 p3 p4 p5 p6 p7 p8 i0 i1 i2 i3 i4 i5 i6 i7 i8 j0 j1 j2 j3 j4 j5 j6 j7 j8
  replace B0 := Lib.hid ((Box.put4_away B0.out (B := w.heap.size + 1 + 1) (o := 0) (by omega)).ext hx)
  replace B1 := Lib.hid ((Box.put4_away B1.out (B := w.heap.size + 1 + 1) (o := 0) (by omega)).ext hx)
  replace B2 := Lib.hid (show Box w2 (w.heap.size + 1 + 1) (cellsC l zeroL (.slice none 0 0)) from ((((B2.out.set 0 (by simp) (.int .i64 l.a)).set 1 (by simp) (.int .i64 l.b)).set 2 (by simp) (.int .i64 l.c)).set 3 (by simp) (.int .i64 l.d)).ext hx)
  replace X := Lib.hid (((((X.out.setNew (p := ⟨w.heap.size + 1 + 1, 0, none⟩) (by simp; omega) _).setNew (p := ⟨w.heap.size + 1 + 1, 1, none⟩) (by simp; omega) _).setNew (p := ⟨w.heap.size + 1 + 1, 2, none⟩) (by simp; omega) _).setNew (p := ⟨w.heap.size + 1 + 1, 3, none⟩) (by simp; omega) _).trans hx)
  clear hx
  obtain ⟨⟨p0, p1, p2, p3, p4, p5, p6, p7, p8⟩, _⟩ := Box.nine B0.out
  obtain ⟨⟨i0, i1, i2, i3, i4, i5, i6, i7, i8⟩, j0, j1, j2, j3, j4, j5, j6, j7, j8⟩ := Box.nine B2.out
  go_wp2_with fail
  have zw2 := World.block_lt_of_cell? w2 _ (B2.out 0 _ rfl).1
  simp at zw2
  refine (toMarkS_any _ _ _ _ (HF.out.ext (by first | exact ((((X.out.setNew (p := ⟨w.heap.size + 1 + 1, 4, none⟩) (by simp; omega) _).setNew (p := ⟨w.heap.size + 1 + 1, 5, none⟩) (by simp; omega) _).setNew (p := ⟨w.heap.size + 1 + 1, 6, none⟩) (by simp; omega) _).setNew (p := ⟨w.heap.size + 1 + 1, 7, none⟩) (by simp; omega) _))) HL.out).mono ?_
  rintro e w3 ⟨B, rfl, hB, hO, hx⟩
  clear p0 p1 p2 p3 p4 p5 p6 p7 p8 i0 i1 i2 i3 i4 i5 i6 i7 i8 j0 j1 j2 j3 j4 j5 j6 j7 j8
  replace B1 := Lib.hid ((Box.put4_away B1.out (B := w.heap.size + 1 + 1) (o := 4) (by omega)).ext hx)
  replace B2 := Lib.hid (show Box w3 (w.heap.size + 1 + 1) (cellsC l k (.slice none 0 0)) from ((((B2.out.set 4 (by simp) (.int .i64 k.a)).set 5 (by simp) (.int .i64 k.b)).set 6 (by simp) (.int .i64 k.c)).set 7 (by simp) (.int .i64 k.d)).ext hx)
  replace X := Lib.hid (((((X.out.setNew (p := ⟨w.heap.size + 1 + 1, 4, none⟩) (by simp; omega) _).setNew (p := ⟨w.heap.size + 1 + 1, 5, none⟩) (by simp; omega) _).setNew (p := ⟨w.heap.size + 1 + 1, 6, none⟩) (by simp; omega) _).setNew (p := ⟨w.heap.size + 1 + 1, 7, none⟩) (by simp; omega) _).trans hx)
  have zB : w.heap.size + 1 + 1 + 1 ≤ B := by
    have z1 := zw2
    simp at hB
    omega
  have HO := Lib.hid hO
  clear hx hO hB
  obtain ⟨⟨h0, h1, h2, h3, h4, h5, h6, h7, h8⟩, f0, f1, f2, f3, f4, f5, f6, f7, f8⟩ := Box.nine B1.out
  obtain ⟨⟨i0, i1, i2, i3, i4, i5, i6, i7, i8⟩, j0, j1, j2, j3, j4, j5, j6, j7, j8⟩ := Box.nine B2.out
  have HB1 := Lib.hid (fun (u : Value) => ((((((((((B1.out.away (p := ⟨w.heap.size + 1 + 1, 8, none⟩) (by simp) u).set 0 (by simp) (.int .i64 l.a)).set 1 (by simp) (.int .i64 l.b)).set 2 (by simp) (.int .i64 l.c)).set 3 (by simp) (.int .i64 l.d)).set 4 (by simp) (.int .i64 k.a)).set 5 (by simp) (.int .i64 k.b)).set 6 (by simp) (.int .i64 k.c)).set 7 (by simp) (.int .i64 k.d)).set 8 (by simp) u))
  go_wp2
  refine course_done (HB1.out _) ?_ rfl
  refine ⟨B, rfl, by omega, ?_, ?_⟩
  · exact ((((((((((HO.out.set (by omega) _).set (by omega) _).set (by omega) _).set (by omega) _).set (by omega) _).set (by omega) _).set (by omega) _).set (by omega) _).set (by omega) _).set (by omega) _)
  · exact (((((((((X.out.setNew (p := ⟨w.heap.size + 1 + 1, 8, none⟩) (by simp; omega) _).setNew (p := ⟨w.heap.size + 1, 0, none⟩) (by simp) _).setNew (p := ⟨w.heap.size + 1, 1, none⟩) (by simp) _).setNew (p := ⟨w.heap.size + 1, 2, none⟩) (by simp) _).setNew (p := ⟨w.heap.size + 1, 3, none⟩) (by simp) _).setNew (p := ⟨w.heap.size + 1, 4, none⟩) (by simp) _).setNew (p := ⟨w.heap.size + 1, 5, none⟩) (by simp) _).setNew (p := ⟨w.heap.size + 1, 6, none⟩) (by simp) _).setNew (p := ⟨w.heap.size + 1, 7, none⟩) (by simp) _).setNew (p := ⟨w.heap.size + 1, 8, none⟩) (by simp) _
set_option maxHeartbeats 1000000 in
theorem eqCourse_same (l k : L4) (a b : Option Addr) (cap cap' : Nat) (ms : List M5) (w : World) (ha : Mks w a ms) (hb : Mks w b ms) : Calls Tryz.prog 43 #[CV l k (.slice a ms.length cap), CV l k (.slice b ms.length cap')] w fun e w' => e = .returned (.bool true) ∧ Ext w w' := by
  have HA := Lib.hid ha
  have HB := Lib.hid hb
  clear ha hb
  go_enter Tryz.func43, Tryz.ntmps43
  go_wp2_with fail
  refine (eqLine_same l _).mono ?_
  rintro e w1 ⟨rfl, hx⟩
  have B0 := Lib.hid (((Box.new (w := w) (n := w.heap.size) (vs := cellsC l k (.slice a ms.length cap)) (t := 30) rfl).alloc _).ext hx)
  have B1 := Lib.hid ((Box.new (w := w.alloc (.cells (cellsC l k (.slice a ms.length cap)).toArray 30)) (n := w.heap.size + 1) (vs := cellsC l k (.slice b ms.length cap')) (t := 30) (by simp)).ext hx)
  have X := Lib.hid (((Ext.refl w).alloc _).alloc _ |>.trans hx)
  clear hx
  obtain ⟨⟨p0, p1, p2, p3, p4, p5, p6, p7, p8⟩, _⟩ := Box.nine B0.out
  obtain ⟨⟨i0, i1, i2, i3, i4, i5, i6, i7, i8⟩, _⟩ := Box.nine B1.out
  go_wp2_with fail
  refine (eqLine_same k _).mono ?_
  rintro e w2 ⟨rfl, hx⟩
  replace p8 := hx.cellOf p8
  replace i8 := hx.cellOf i8
  replace X := Lib.hid (X.out.trans hx)
  clear hx p0 p1 p2 p3 p4 p5 p6 p7 i0 i1 i2 i3 i4 i5 i6 i7
  go_wp2_with fail
  refine (eqMarkS_same _ _ _ _ _ _ (HA.out.ext X.out) (HB.out.ext X.out)).mono ?_
  rintro e w3 ⟨rfl, hx⟩
  go_wp2
  go_ret
  exact ⟨rfl, X.out.trans hx⟩
end Go.Proofs.YtmlojndkpnhalaaGreat.Crs
namespace Go.Proofs.YtmlojndkpnhalaaGreat.Crs
open Go.ChangeShapes Go.WideShapes Go.ChangeAt Go.RowKit Go.PlainAid
open Go.Proofs.YtmlojndkpnhalaaGreat.Num Go.Proofs.YtmlojndkpnhalaaGreat.Kit Go.Proofs.YtmlojndkpnhalaaGreat.Pts Go.Proofs.YtmlojndkpnhalaaGreat.Seg
set_option linter.unusedVariables false
set_option linter.unusedSimpArgs false
theorem ch_no {n : Int} (h : slB n = false) (g : dgB n = false) : chB n = false := by unfold chB; rw [h, g]; rfl
set_option maxHeartbeats 2000000 in
theorem name_spec (s : ByteArray) (w : World) (hs : s.size ≤ maxLen) : Calls Tryz.prog 204 #[.string s] w fun e w' => e = .returned (.bool (nmB s)) ∧ w = w' := by
  have hb := get_bt s
  unfold maxLen at hs
  by_cases h1 : s.size < 1
  · have H := Lib.hid (nm_short h1)
    have e1 : (s.size : Int) < 1 := by omega
    go_enter Tryz.func204, Tryz.ntmps204
    go_wp2
    go_ret
    exact ⟨ret_bool H.out, rfl⟩
  have e1 : ¬ (s.size : Int) < 1 := by omega
  have p0 : 0 < s.size := by omega
  have p1 : (0 : Int) < (s.size : Int) := by omega
  by_cases h8 : 8 < s.size
  · have H := Lib.hid (nm_long h8)
    have e2 : 8 < (s.size : Int) := by omega
    go_enter Tryz.func204, Tryz.ntmps204
    go_wp2
    go_ret
    exact ⟨ret_bool H.out, rfl⟩
  have e2 : ¬ 8 < (s.size : Int) := by omega
  by_cases a1 : bt s 0 < 97
  · have H := Lib.hid (nm_first (show slB (bt s 0) = false from inB_no (by omega)))
    go_enter Tryz.func204, Tryz.ntmps204
    go_wp2
    go_ret
    exact ⟨ret_bool H.out, rfl⟩
  by_cases a2 : 122 < bt s 0
  · have H := Lib.hid (nm_first (show slB (bt s 0) = false from inB_no (by omega)))
    go_enter Tryz.func204, Tryz.ntmps204
    go_wp2
    go_ret
    exact ⟨ret_bool H.out, rfl⟩
  · have h3 := Lib.hid (show slB (bt s 0) = true from inB_yes (by omega) (by omega))
    go_enter Tryz.func204, Tryz.ntmps204
    go_wp2
    go_loopw [3] (fun i wr => RelN w s i wr) (fun i _ => s.size - (intOf i).toNat)
    case atStart => exact ⟨0, rfl, Nat.zero_le _, fun j hj => absurd hj (by omega), rfl⟩
    case round =>
      obtain ⟨k, rfl, hk, hd, rfl⟩ := hrel
      have HD := Lib.hid hd
      clear hd
      by_cases hk1 : k < s.size
      · have i0 : (0 : Int) ≤ (k : Int) := by omega
        have i1 : (k : Int) < (s.size : Int) := by omega
        have T7 : IntKind.i64.wrap ((k : Int) + 1) = (k : Int) + 1 := IntWalk.i64_in _ (by omega)
        by_cases c1 : bt s k < 97
        · have n1 := Lib.hid (show slB (bt s k) = false from inB_no (by omega))
          by_cases c3 : bt s k < 48
          · have H := Lib.hid (nm_no hk1 (ch_no n1.out (show dgB (bt s k) = false from inB_no (by omega))))
            go_wp2
            go_ret
            exact ⟨ret_bool H.out, rfl⟩
          by_cases c4 : 57 < bt s k
          · have H := Lib.hid (nm_no hk1 (ch_no n1.out (show dgB (bt s k) = false from inB_no (by omega))))
            go_wp2
            go_ret
            exact ⟨ret_bool H.out, rfl⟩
          · have H := Lib.hid (show chB (bt s k) = true by unfold chB; rw [n1.out, show dgB (bt s k) = true from inB_yes (by omega) (by omega)]; rfl)
            go_wp2
            go_roundw
            case rel => exact ⟨k + 1, by go_num, by omega, fun j hj => by rcases Nat.lt_or_ge j k with g | g; exact HD.out j g; exact (show j = k by omega) ▸ H.out, rfl⟩
            case measure => simp [intOf]; omega
        · by_cases c2 : 122 < bt s k
          · have n1 := Lib.hid (show slB (bt s k) = false from inB_no (by omega))
            have c3 : ¬ bt s k < 48 := by omega
            have c4 : 57 < bt s k := by omega
            have H := Lib.hid (nm_no hk1 (ch_no n1.out (show dgB (bt s k) = false from inB_no (by omega))))
            go_wp2
            go_ret
            exact ⟨ret_bool H.out, rfl⟩
          · have H := Lib.hid (show chB (bt s k) = true by unfold chB; rw [show slB (bt s k) = true from inB_yes (by omega) (by omega)]; rfl)
            go_wp2
            go_roundw
            case rel => exact ⟨k + 1, by go_num, by omega, fun j hj => by rcases Nat.lt_or_ge j k with g | g; exact HD.out j g; exact (show j = k by omega) ▸ H.out, rfl⟩
            case measure => simp [intOf]; omega
      · obtain rfl : k = s.size := by omega
        have H := Lib.hid (nm_all (by omega) (by omega) h3.out HD.out)
        go_wp2
        go_ret
        exact ⟨ret_bool H.out, rfl⟩
def mkB (m : M5) : Bool := nmB m.n && (ptB m.x m.y && (inB m.s 1 2 && inB m.z 1 5000))
theorem mark_impl (m : M5) (w : World) (hs : m.n.size ≤ maxLen) : Calls Tryz.prog 344 #[MV m] w fun e w' => e = .returned (.bool (mkB m)) ∧ Ext w w' := by
  obtain ⟨n, x, y, s, z⟩ := m
  have HS := Lib.hid hs
  clear hs
  have H := Lib.hid (show mkB ⟨n, x, y, s, z⟩ = (nmB n && (ptB x y && (inB s 1 2 && inB z 1 5000))) from rfl)
  cases h1 : nmB n
  · rw [h1] at H
    go_enter Tryz.func344, Tryz.ntmps344
    go_wp2_with (first | (go_at_call 346; refine (name_impl _ _ HS.out).mono ?_; rw [h1]; rintro e w1 ⟨rfl, rfl⟩))
    go_ret
    exact ⟨ret_bool H.out, (by repeat (first | exact Ext.refl _ | assumption | apply Ext.alloc | apply Ext.drew | (refine Ext.trans ?_ (by assumption)) | (refine Ext.setNew ?_ (by simp <;> omega) _)))⟩
  cases h2 : ptB x y
  · rw [h1, h2] at H
    go_enter Tryz.func344, Tryz.ntmps344
    go_wp2_with (first | (go_at_call 346; refine (name_impl _ _ HS.out).mono ?_; rw [h1]; rintro e w1 ⟨rfl, rfl⟩) | (go_at_call 168; refine (isValid_any _ _ _).mono ?_; rw [h2]; rintro e w1 ⟨rfl, hx⟩; obtain ⟨hc, hf⟩ := hx.facts; have hz := hx.size; (try simp at hz); (try (have hz0 : w.heap.size < w1.heap.size := by omega)); (try (have hz1 : w.heap.size + 1 < w1.heap.size := by omega)); (try (have hz2 : w.heap.size + 1 + 1 < w1.heap.size := by omega)); (try (have hz3 : w.heap.size + 1 + 1 + 1 < w1.heap.size := by omega))))
    go_ret
    exact ⟨ret_bool H.out, (by repeat (first | exact Ext.refl _ | assumption | apply Ext.alloc | apply Ext.drew | (refine Ext.trans ?_ (by assumption)) | (refine Ext.setNew ?_ (by simp <;> omega) _)))⟩
  cases h3 : inB s 1 2
  · rw [h1, h2, h3] at H
    go_enter Tryz.func344, Tryz.ntmps344
    go_wp2_with (first | (go_at_call 346; refine (name_impl _ _ HS.out).mono ?_; rw [h1]; rintro e w1 ⟨rfl, rfl⟩) | (go_at_call 168; refine (isValid_any _ _ _).mono ?_; rw [h2]; rintro e w1 ⟨rfl, hx⟩; obtain ⟨hc, hf⟩ := hx.facts; have hz := hx.size; (try simp at hz); (try (have hz0 : w.heap.size < w1.heap.size := by omega)); (try (have hz1 : w.heap.size + 1 < w1.heap.size := by omega)); (try (have hz2 : w.heap.size + 1 + 1 < w1.heap.size := by omega)); (try (have hz3 : w.heap.size + 1 + 1 + 1 < w1.heap.size := by omega))) | (go_at_call 347; refine (side_any _ _).mono ?_; rw [h3]; rintro e w1 ⟨rfl, rfl⟩))
    go_ret
    exact ⟨ret_bool H.out, (by repeat (first | exact Ext.refl _ | assumption | apply Ext.alloc | apply Ext.drew | (refine Ext.trans ?_ (by assumption)) | (refine Ext.setNew ?_ (by simp <;> omega) _)))⟩
  rw [h1, h2, h3] at H
  have HZ : (inB z 1 5000 = true ∧ 1 ≤ z ∧ z ≤ 5000) ∨ (inB z 1 5000 = false ∧ ¬ 1 ≤ z) ∨ (inB z 1 5000 = false ∧ 1 ≤ z ∧ ¬ z ≤ 5000) := by
    by_cases a : 1 ≤ z
    · by_cases b : z ≤ 5000
      · exact .inl ⟨inB_yes a b, a, b⟩
      · exact .inr (.inr ⟨inB_no (by omega), a, b⟩)
    · exact .inr (.inl ⟨inB_no (by omega), a⟩)
  rcases HZ with ⟨h4, a, b⟩ | ⟨h4, a⟩ | ⟨h4, a, b⟩
  all_goals
    rw [h4] at H
    go_enter Tryz.func344, Tryz.ntmps344
    go_wp2_with (first | (go_at_call 346; refine (name_impl _ _ HS.out).mono ?_; rw [h1]; rintro e w1 ⟨rfl, rfl⟩) | (go_at_call 168; refine (isValid_any _ _ _).mono ?_; rw [h2]; rintro e w1 ⟨rfl, hx⟩; obtain ⟨hc, hf⟩ := hx.facts; have hz := hx.size; (try simp at hz); (try (have hz0 : w.heap.size < w1.heap.size := by omega)); (try (have hz1 : w.heap.size + 1 < w1.heap.size := by omega)); (try (have hz2 : w.heap.size + 1 + 1 < w1.heap.size := by omega)); (try (have hz3 : w.heap.size + 1 + 1 + 1 < w1.heap.size := by omega))) | (go_at_call 347; refine (side_any _ _).mono ?_; rw [h3]; rintro e w1 ⟨rfl, rfl⟩))
    go_ret
    first | exact ⟨ret_bool H.out, (by repeat (first | exact Ext.refl _ | assumption | apply Ext.alloc | apply Ext.drew | (refine Ext.trans ?_ (by assumption)) | (refine Ext.setNew ?_ (by simp <;> omega) _)))⟩ | exact ⟨ret_bool (by rw [H.out]; simp; omega), (by repeat (first | exact Ext.refl _ | assumption | apply Ext.alloc | apply Ext.drew | (refine Ext.trans ?_ (by assumption)) | (refine Ext.setNew ?_ (by simp <;> omega) _)))⟩
theorem mark_spec (m : M5) (w : World) (hs : m.n.size ≤ maxLen) : Calls Tryz.prog 141 #[MV m] w fun e w' => e = .returned (.bool (mkB m)) ∧ Ext w w' := by
  obtain ⟨n, x, y, s, z⟩ := m
  have HS := Lib.hid hs
  clear hs
  have H := Lib.hid (show mkB ⟨n, x, y, s, z⟩ = (nmB n && (ptB x y && (inB s 1 2 && inB z 1 5000))) from rfl)
  cases h1 : nmB n
  · rw [h1] at H
    go_enter Tryz.func141, Tryz.ntmps141
    go_wp2_with (first | (go_at_call 204; refine (name_spec _ _ HS.out).mono ?_; rw [h1]; rintro e w1 ⟨rfl, rfl⟩))
    go_ret
    exact ⟨ret_bool H.out, (by repeat (first | exact Ext.refl _ | assumption | apply Ext.alloc | apply Ext.drew | (refine Ext.trans ?_ (by assumption)) | (refine Ext.setNew ?_ (by simp <;> omega) _)))⟩
  cases h2 : ptB x y
  · rw [h1, h2] at H
    go_enter Tryz.func141, Tryz.ntmps141
    go_wp2_with (first | (go_at_call 204; refine (name_spec _ _ HS.out).mono ?_; rw [h1]; rintro e w1 ⟨rfl, rfl⟩) | (go_at_call 134; refine (isPoint_spec _ _ _).mono ?_; rw [h2]; rintro e w1 ⟨rfl, hx⟩; obtain ⟨hc, hf⟩ := hx.facts; have hz := hx.size; (try simp at hz); (try (have hz0 : w.heap.size < w1.heap.size := by omega)); (try (have hz1 : w.heap.size + 1 < w1.heap.size := by omega)); (try (have hz2 : w.heap.size + 1 + 1 < w1.heap.size := by omega)); (try (have hz3 : w.heap.size + 1 + 1 + 1 < w1.heap.size := by omega))))
    go_ret
    exact ⟨ret_bool H.out, (by repeat (first | exact Ext.refl _ | assumption | apply Ext.alloc | apply Ext.drew | (refine Ext.trans ?_ (by assumption)) | (refine Ext.setNew ?_ (by simp <;> omega) _)))⟩
  cases h3 : inB s 1 2
  · rw [h1, h2, h3] at H
    go_enter Tryz.func141, Tryz.ntmps141
    go_wp2_with (first | (go_at_call 204; refine (name_spec _ _ HS.out).mono ?_; rw [h1]; rintro e w1 ⟨rfl, rfl⟩) | (go_at_call 134; refine (isPoint_spec _ _ _).mono ?_; rw [h2]; rintro e w1 ⟨rfl, hx⟩; obtain ⟨hc, hf⟩ := hx.facts; have hz := hx.size; (try simp at hz); (try (have hz0 : w.heap.size < w1.heap.size := by omega)); (try (have hz1 : w.heap.size + 1 < w1.heap.size := by omega)); (try (have hz2 : w.heap.size + 1 + 1 < w1.heap.size := by omega)); (try (have hz3 : w.heap.size + 1 + 1 + 1 < w1.heap.size := by omega))) | (go_at_call 82; refine (in_any _ _ _ _).mono ?_; rw [h3]; rintro e w1 ⟨rfl, rfl⟩))
    go_ret
    exact ⟨ret_bool H.out, (by repeat (first | exact Ext.refl _ | assumption | apply Ext.alloc | apply Ext.drew | (refine Ext.trans ?_ (by assumption)) | (refine Ext.setNew ?_ (by simp <;> omega) _)))⟩
  rw [h1, h2, h3] at H
  cases h4 : inB z 1 5000
  all_goals
    rw [h4] at H
    go_enter Tryz.func141, Tryz.ntmps141
    go_wp2_with (first | (go_at_call 204; refine (name_spec _ _ HS.out).mono ?_; rw [h1]; rintro e w1 ⟨rfl, rfl⟩) | (go_at_call 134; refine (isPoint_spec _ _ _).mono ?_; rw [h2]; rintro e w1 ⟨rfl, hx⟩; obtain ⟨hc, hf⟩ := hx.facts; have hz := hx.size; (try simp at hz); (try (have hz0 : w.heap.size < w1.heap.size := by omega)); (try (have hz1 : w.heap.size + 1 < w1.heap.size := by omega)); (try (have hz2 : w.heap.size + 1 + 1 < w1.heap.size := by omega)); (try (have hz3 : w.heap.size + 1 + 1 + 1 < w1.heap.size := by omega))) | (go_at_call 82; with_reducible refine (in_any s 1 2 _).mono ?_; rw [h3]; rintro e w1 ⟨rfl, rfl⟩) | (go_at_call 82; with_reducible refine (in_any z 1 5000 _).mono ?_; rw [h4]; rintro e w1 ⟨rfl, rfl⟩))
    go_ret
    exact ⟨ret_bool H.out, (by repeat (first | exact Ext.refl _ | assumption | apply Ext.alloc | apply Ext.drew | (refine Ext.trans ?_ (by assumption)) | (refine Ext.setNew ?_ (by simp <;> omega) _)))⟩
def ixO (ms : List M5) (n : ByteArray) : Option Nat := (List.range ms.length).find? fun k => decide ((mk ms k).n = n)
def ixI (ms : List M5) (n : ByteArray) : Int := match ixO ms n with | some k => (k : Int) | none => -1
theorem ix_yes {ms : List M5} {n : ByteArray} {k : Nat} (hk : k < ms.length) (h : (mk ms k).n = n) (hd : ∀ j, j < k → ¬ (mk ms j).n = n) : ixI ms n = k := by
  have e : ixO ms n = some k := by
    unfold ixO
    rw [List.find?_range_eq_some]
    exact ⟨by simpa using h, by simpa using hk, fun j hj => by simpa using hd j hj⟩
  unfold ixI; rw [e]
theorem ix_none {ms : List M5} {n : ByteArray} (hd : ∀ j, j < ms.length → ¬ (mk ms j).n = n) : ixI ms n = -1 := by
  have e : ixO ms n = none := by
    unfold ixO
    rw [List.find?_eq_none]
    intro j hj
    simpa using hd j (by simpa using hj)
  unfold ixI; rw [e]
theorem ne_list {a b : ByteArray} (h : ¬ a = b) : (a.toList == b.toList) = false := by
  refine beq_eq_false_iff_ne.2 fun e => h ?_
  rw [ByteArray.toList_eq, ByteArray.toList_eq] at e
  exact bytes_inj e
abbrev Ptr (k : Nat) : Value := .pointer (some ⟨k, 0, none⟩)
theorem same_any (m : M5) (n : ByteArray) (k : Nat) (w : World) (hk : w.cell? ⟨k, 0, none⟩ = some (.string n)) :
    Calls Tryz.prog 289 #[MV m, Ptr k] w fun e w' => e = .returned (.bool (decide (m.n = n))) ∧ Ext w w' := by
  obtain ⟨a, x, y, s, z⟩ := m
  have hk2 : ∀ A, (w.alloc A).cell? ⟨k, 0, none⟩ = some (.string n) := fun A => ((Ext.refl w).alloc A).cellOf hk
  by_cases h : a = n
  · have H := Lib.hid (show decide (a = n) = true from decide_eq_true h)
    go_enter Tryz.func289, Tryz.ntmps289
    go_wp2
    go_ret
    exact ⟨ret_bool H.out, (by repeat (first | exact Ext.refl _ | assumption | apply Ext.alloc | apply Ext.drew | (refine Ext.trans ?_ (by assumption)) | (refine Ext.setNew ?_ (by simp <;> omega) _)))⟩
  · have H := Lib.hid (show decide (a = n) = false from decide_eq_false h)
    have hq := ne_list h
    go_enter Tryz.func289, Tryz.ntmps289
    go_wp2
    go_ret
    exact ⟨ret_bool H.out, (by repeat (first | exact Ext.refl _ | assumption | apply Ext.alloc | apply Ext.drew | (refine Ext.trans ?_ (by assumption)) | (refine Ext.setNew ?_ (by simp <;> omega) _)))⟩
def RelI (w : World) (ms : List M5) (n : ByteArray) (i : Value) (wr : World) : Prop := ∃ k : Nat, i = .int .i64 k ∧ k ≤ ms.length ∧ (∀ j, j < k → ¬ (mk ms j).n = n) ∧ Ext w wr
set_option maxHeartbeats 1000000 in
theorem indexFunc_any (a : Option Addr) (cap : Nat) (ms : List M5) (n : ByteArray) (k : Nat) (w : World) (hf : Mks w a ms) (hk : w.cell? ⟨k, 0, none⟩ = some (.string n)) :
    Calls Tryz.prog 288 #[.slice a ms.length cap, .func (.func 289) #[] #[Ptr k]] w fun e w' => e = .returned (.int .i64 (ixI ms n)) ∧ Ext w w' := by
  have hm := hf.1.1
  unfold maxLen at hm
  have HF := Lib.hid hf
  have HK := Lib.hid hk
  clear hf hk
  go_enter Tryz.func288, Tryz.ntmps288
  go_wp2
  go_loopw [8] (fun i wr => RelI w ms n i wr) (fun i _ => ms.length - (intOf i).toNat)
  case atStart => exact ⟨0, rfl, Nat.zero_le _, fun j hj => absurd hj (by omega), Ext.refl _⟩
  case round =>
    obtain ⟨j, rfl, hj, hd, hx⟩ := hrel
    have HD := Lib.hid hd
    have HX := Lib.hid hx
    clear hd hx
    by_cases hj1 : j < ms.length
    · obtain ⟨b, off, rfl, hb⟩ := HF.out.row (by omega)
      obtain ⟨c0, c1, c2, c3, c4⟩ := (hb j hj1).ext HX.out
      have i0 : (0 : Int) ≤ (j : Int) := by omega
      have i1 : (j : Int) < (ms.length : Int) := by omega
      have T7 : IntKind.i64.wrap ((j : Int) + 1) = (j : Int) + 1 := IntWalk.i64_in _ (by omega)
      have hc := same_any (mk ms j) n k wr (HX.out.cellOf HK.out)
      clear hb
      by_cases h : (mk ms j).n = n
      · rw [decide_eq_true h] at hc
        have H := Lib.hid (ix_yes hj1 h HD.out)
        clear h
        go_wp2_with (go_at_call 289; refine hc.mono ?_; rintro e w1 ⟨rfl, hy⟩)
        go_ret
        exact ⟨ret_int H.out, HX.out.trans hy⟩
      · rw [decide_eq_false h] at hc
        have H := Lib.hid h
        clear h
        go_wp2_with (go_at_call 289; refine hc.mono ?_; rintro e w1 ⟨rfl, hy⟩)
        have HY := Lib.hid (HX.out.trans hy)
        clear hy
        go_roundw
        case rel => exact ⟨j + 1, by go_num, by omega, fun x hx => by rcases Nat.lt_or_ge x j with g | g; exact HD.out x g; exact (show x = j by omega) ▸ H.out, HY.out⟩
        case measure => simp [intOf]; omega
    · obtain rfl : j = ms.length := by omega
      have H := Lib.hid (ix_none HD.out)
      go_wp2
      go_ret
      exact ⟨ret_int H.out, HX.out⟩
theorem markIndex_any (l k : L4) (a : Option Addr) (cap : Nat) (ms : List M5) (n : ByteArray) (w : World) (hf : Mks w a ms) :
    Calls Tryz.prog 241 #[CV l k (.slice a ms.length cap), .string n] w fun e w' => e = .returned (.int .i64 (ixI ms n)) ∧ Ext w w' := by
  have HF := Lib.hid hf
  clear hf
  go_enter Tryz.func241, Tryz.ntmps241
  go_wp2_with fail
  refine (indexFunc_any _ _ _ n _ _ (HF.out.ext (by repeat (first | exact Ext.refl _ | assumption | apply Ext.alloc | apply Ext.drew | (refine Ext.trans ?_ (by assumption)) | (refine Ext.setNew ?_ (by simp <;> omega) _)))) (boxed 0 rfl (by simp))).mono ?_
  rintro e w1 ⟨rfl, hx⟩
  go_wp2
  go_ret
  exact ⟨rfl, (by repeat (first | exact Ext.refl _ | assumption | apply Ext.alloc | apply Ext.drew | (refine Ext.trans ?_ (by assumption)) | (refine Ext.setNew ?_ (by simp <;> omega) _)))⟩
set_option maxHeartbeats 1000000 in
theorem named_spec (l k : L4) (a : Option Addr) (cap : Nat) (ms : List M5) (n : ByteArray) (w : World) (hf : Mks w a ms) :
    Calls Tryz.prog 142 #[CV l k (.slice a ms.length cap), .string n] w fun e w' => e = .returned (.int .i64 (ixI ms n)) ∧ Ext w w' := by
  have hm := hf.1.1
  unfold maxLen at hm
  obtain ⟨W0, hW0⟩ : ∃ W0, W0 = w.alloc (.cells (cellsC l k (.slice a ms.length cap)).toArray 30) := ⟨_, rfl⟩
  have HW := Lib.hid (show Ext w W0 from hW0 ▸ (Ext.refl w).alloc _)
  have HF := Lib.hid (hf.ext HW.out)
  have bt8 : ∀ w', Ext W0 w' → w'.cell? ⟨w.heap.size, 8, none⟩ = some (.slice a ms.length cap) := fun w' h => h.cellOf (hW0 ▸ boxed 8 rfl rfl)
  clear hf
  go_enter Tryz.func142, Tryz.ntmps142
  go_wp2
  rw [← hW0]
  go_loopw [5] (fun i wr => RelI W0 ms n i wr) (fun i _ => ms.length - (intOf i).toNat)
  case atStart => exact ⟨0, rfl, Nat.zero_le _, fun j hj => absurd hj (by omega), Ext.refl _⟩
  case round =>
    obtain ⟨j, rfl, hj, hd, hx⟩ := hrel
    have HD := Lib.hid hd
    have HX := Lib.hid hx
    have b8 := bt8 _ hx
    clear hd hx
    by_cases hj1 : j < ms.length
    · obtain ⟨b, off, rfl, hb⟩ := HF.out.row (by omega)
      obtain ⟨c0, c1, c2, c3, c4⟩ := (hb j hj1).ext HX.out
      have i0 : (0 : Int) ≤ (j : Int) := by omega
      have i1 : (j : Int) < (ms.length : Int) := by omega
      have T7 : IntKind.i64.wrap ((j : Int) + 1) = (j : Int) + 1 := IntWalk.i64_in _ (by omega)
      clear hb
      by_cases h : (mk ms j).n = n
      · have H := Lib.hid (ix_yes hj1 h HD.out)
        go_wp2
        go_ret
        exact ⟨ret_int H.out, HW.out.trans HX.out⟩
      · have H := Lib.hid h
        have hq := ne_list h
        go_wp2
        go_roundw
        case rel => exact ⟨j + 1, by go_num, by omega, fun x hx => by rcases Nat.lt_or_ge x j with g | g; exact HD.out x g; exact (show x = j by omega) ▸ H.out, HX.out⟩
        case measure => simp [intOf]; omega
    · obtain rfl : j = ms.length := by omega
      have H := Lib.hid (ix_none HD.out)
      go_wp2
      go_ret
      exact ⟨ret_int H.out, HW.out.trans HX.out⟩
end Go.Proofs.YtmlojndkpnhalaaGreat.Crs
