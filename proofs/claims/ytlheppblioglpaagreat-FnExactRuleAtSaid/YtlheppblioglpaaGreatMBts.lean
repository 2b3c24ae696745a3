/- Parts of this claim in one text: Bts, Bts2, Bta. -/
import Derived.Test.YtlheppblioglpaaGreatMnv
import Derived.Test.YtlheppblioglpaaGreatMRes5
import Derived.Deep.QuietTactic
import Derived.BigQuiet
import Derived.Lib.SmallJoins
import Derived.OpenShut
import Derived.Deep.Slices
import Derived.Deep.Fields
import Derived.ChangeSame
import Derived.Deep.DeepCutAuto
import Derived.Test.YtlheppblioglpaaGreatMMan4

/- Rows of boats (chapter 10): reading them, and the contracts of the conversions and comparisons that the exact laws use. -/
namespace Go.Proofs.YtlheppblioglpaaGreat.Bts
open Go.ChangeShapes Go.WideShapes Go.ChangeAt Go.RowKit Go.Deep
open Go.Proofs.YtlheppblioglpaaGreat.Num Go.Proofs.YtlheppblioglpaaGreat.Kit Go.Proofs.YtlheppblioglpaaGreat.Pts Go.Proofs.YtlheppblioglpaaGreat.Seg Go.Proofs.YtlheppblioglpaaGreat.Hul
open Go.Proofs.YtlheppblioglpaaGreat.Mnv (set_other RelE)
set_option linter.unusedVariables false
set_option linter.unusedSimpArgs false

/-- A boat: bow, heading, length, and whether it is turning. -/
structure B6 where
  a : Int
  b : Int
  c : Int
  d : Int
  n : Int
  s : Bool
def B6.cells (p : B6) : List Value := [.int .i64 p.a, .int .i64 p.b, .int .i64 p.c, .int .i64 p.d, .int .i64 p.n, .bool p.s]
abbrev B6.v (p : B6) : Value := .agg #[.int .i64 p.a, .int .i64 p.b, .int .i64 p.c, .int .i64 p.d, .int .i64 p.n, .bool p.s]
abbrev B6.h (p : B6) : Value := Hv p.a p.b p.c p.d p.n
def bx (bs : List B6) (i : Nat) : B6 := bs.getD i ⟨0, 0, 0, 0, 0, false⟩
theorem bx_at {bs : List B6} {i : Nat} (h : i < bs.length) : bs[i]? = some (bx bs i) := by
  unfold bx
  rw [List.getD_eq_getElem?_getD, List.getElem?_eq_getElem h]; rfl
theorem bx_snoc (fs : List B6) (f : B6) (i : Nat) : bx (fs ++ [f]) i = if i < fs.length then bx fs i else if i = fs.length then f else ⟨0, 0, 0, 0, 0, false⟩ := by
  unfold bx
  rw [List.getD_eq_getElem?_getD, List.getD_eq_getElem?_getD, List.getElem?_append]
  by_cases h : i < fs.length
  · rw [if_pos h, if_pos h]
  · rw [if_neg h, if_neg h]
    by_cases h2 : i = fs.length
    · subst h2; simp
    · rw [if_neg h2, List.getElem?_eq_none (by simp; omega)]; rfl
/-- A boat lies at an address. -/
def BAt (w : World) (b o : Nat) (p : B6) : Prop := ∀ j u, p.cells[j]? = some u → w.cell? ⟨b, o + j, none⟩ = some u
theorem BAt.ext {w w' : World} {b o : Nat} {p : B6} (h : BAt w b o p) (k : Ext w w') : BAt w' b o p := fun j u hj => k.cellOf (h j u hj)
theorem BAt.six {w : World} {b o : Nat} {p : B6} (h : BAt w b o p) : w.cell? ⟨b, o, none⟩ = some (.int .i64 p.a) ∧ w.cell? ⟨b, o + 1, none⟩ = some (.int .i64 p.b) ∧ w.cell? ⟨b, o + 2, none⟩ = some (.int .i64 p.c) ∧ w.cell? ⟨b, o + 3, none⟩ = some (.int .i64 p.d) ∧ w.cell? ⟨b, o + 4, none⟩ = some (.int .i64 p.n) ∧ w.cell? ⟨b, o + 5, none⟩ = some (.bool p.s) :=
  ⟨h 0 _ rfl, h 1 _ rfl, h 2 _ rfl, h 3 _ rfl, h 4 _ rfl, h 5 _ rfl⟩
theorem gather6 {w : World} {b off : Nat} : ∀ n : Nat, (∀ i, i < n → ∃ f : B6, BAt w b (off + i * 6) f) → ∃ fs : List B6, fs.length = n ∧ ∀ i, i < n → BAt w b (off + i * 6) (bx fs i)
  | 0, _ => ⟨[], rfl, fun i hi => absurd hi (by omega)⟩
  | n + 1, h => by
    obtain ⟨fs, hl, hf⟩ := gather6 n (fun i hi => h i (by omega))
    obtain ⟨f, g⟩ := h n (by omega)
    refine ⟨fs ++ [f], by simp [hl], fun i hi => ?_⟩
    rw [bx_snoc]
    by_cases h1 : i < fs.length
    · rw [if_pos h1]; exact hf i (by omega)
    · obtain rfl : i = n := by omega
      rw [if_neg h1, if_pos hl.symm]; exact g
/-- A slice that reads as a list of boats. -/
def Bts (w : World) (a : Option Addr) (bs : List B6) : Prop :=
  bs.length ≤ maxLen ∧ (bs = [] ∨ ∃ b off, a = some ⟨b, off, none⟩ ∧ ∀ i, i < bs.length → BAt w b (off + i * 6) (bx bs i))
theorem Bts.ext {w w' : World} {a : Option Addr} {bs : List B6} (h : Bts w a bs) (k : Ext w w') : Bts w' a bs := by
  refine ⟨h.1, ?_⟩
  rcases h.2 with h | ⟨b, off, ha, h⟩
  · exact .inl h
  · exact .inr ⟨b, off, ha, fun i hi => (h i hi).ext k⟩
theorem Bts.row {w : World} {a : Option Addr} {bs : List B6} (h : Bts w a bs) (h0 : 0 < bs.length) : ∃ b off, a = some ⟨b, off, none⟩ ∧ ∀ i, i < bs.length → BAt w b (off + i * 6) (bx bs i) := by
  rcases h.2 with e | e
  · rw [e] at h0; simp at h0
  · exact e
/-- Block B holds the boats of a list one behind the other, and may be written. -/
def Own6 (w : World) (B : Nat) (bs : List B6) : Prop := ∀ i, i < bs.length → BAt w B (i * 6) (bx bs i) ∧ ∀ j, j < 6 → w.frozen? ⟨B, i * 6 + j, none⟩ = false
theorem Own6.ext {w w' : World} {B : Nat} {bs : List B6} (h : Own6 w B bs) (k : Ext w w') : Own6 w' B bs :=
  fun i hi => ⟨(h i hi).1.ext k, fun j hj => k.thawOf ((h i hi).1 j _ (List.getElem?_eq_getElem (show j < (bx bs i).cells.length by simp [B6.cells]; omega))) ((h i hi).2 j hj)⟩
theorem Own6.bts {w : World} {B : Nat} {bs : List B6} (h : Own6 w B bs) (hl : bs.length ≤ maxLen) : Bts w (some ⟨B, 0, none⟩) bs :=
  ⟨hl, .inr ⟨B, 0, rfl, fun i hi => by rw [Nat.zero_add]; exact (h i hi).1⟩⟩

end Go.Proofs.YtlheppblioglpaaGreat.Bts

/- Boats of the laws as boats of the program, rows of them; comparing and marking them (chapter 10's laws). -/
namespace Go.Proofs.YtlheppblioglpaaGreat.Bts
open Go.ChangeShapes Go.WideShapes Go.ChangeAt Go.RowKit Go.PlainAid
open Go.Proofs.YtlheppblioglpaaGreat.Num Go.Proofs.YtlheppblioglpaaGreat.Kit Go.Proofs.YtlheppblioglpaaGreat.Pts Go.Proofs.YtlheppblioglpaaGreat.Seg Go.Proofs.YtlheppblioglpaaGreat.Hul
open Go.Proofs.YtlheppblioglpaaGreat.Mnv (set_other RelE)
set_option linter.unusedVariables false
set_option linter.unusedSimpArgs false

theorem Box.sixc {w : World} {n : Nat} {x y z u r s : Value} (h : Box w n [x, y, z, u, r, s]) : (w.cell? ⟨n, 0, none⟩ = some x ∧ w.cell? ⟨n, 1, none⟩ = some y ∧ w.cell? ⟨n, 2, none⟩ = some z ∧ w.cell? ⟨n, 3, none⟩ = some u ∧ w.cell? ⟨n, 4, none⟩ = some r ∧ w.cell? ⟨n, 5, none⟩ = some s) ∧
    w.frozen? ⟨n, 0, none⟩ = false ∧ w.frozen? ⟨n, 1, none⟩ = false ∧ w.frozen? ⟨n, 2, none⟩ = false ∧ w.frozen? ⟨n, 3, none⟩ = false ∧ w.frozen? ⟨n, 4, none⟩ = false ∧ w.frozen? ⟨n, 5, none⟩ = false :=
  ⟨⟨(h 0 x rfl).1, (h 1 y rfl).1, (h 2 z rfl).1, (h 3 u rfl).1, (h 4 r rfl).1, (h 5 s rfl).1⟩, (h 0 x rfl).2, (h 1 y rfl).2, (h 2 z rfl).2, (h 3 u rfl).2, (h 4 r rfl).2, (h 5 s rfl).2⟩
abbrev L6 (a b c d n : Int) (s : Bool) : List Value := [.int .i64 a, .int .i64 b, .int .i64 c, .int .i64 d, .int .i64 n, .bool s]
/-- What is left of a bound behind a slice's length. -/
def szB (m : Int) (len : Nat) : Int := if m - len < 0 then -1 else m - len
theorem szB_neg {m : Int} {len : Nat} (h : m - len < 0) : szB m len = -1 := if_pos h
theorem szB_pos {m : Int} {len : Nat} (h : ¬ m - len < 0) : szB m len = m - len := if_neg h
/-- A boat lies in a list of cells. -/
def BIn (L : List Value) (o : Nat) (p : B6) : Prop := ∀ j u, p.cells[j]? = some u → L[o + j]? = some u
def set6L (L : List Value) (o : Nat) (a b c d n s : Value) : List Value := (((((L.set o a).set (o + 1) b).set (o + 2) c).set (o + 3) d).set (o + 4) n).set (o + 5) s
theorem set6L_len (L : List Value) (o : Nat) (a b c d n s : Value) : (set6L L o a b c d n s).length = L.length := by simp [set6L]
theorem set6L_off {L : List Value} {o i : Nat} {a b c d n s : Value} (h : i < o ∨ o + 5 < i) : (set6L L o a b c d n s)[i]? = L[i]? := by
  unfold set6L
  rw [List.getElem?_set_ne (by omega), List.getElem?_set_ne (by omega), List.getElem?_set_ne (by omega), List.getElem?_set_ne (by omega), List.getElem?_set_ne (by omega), List.getElem?_set_ne (by omega)]
theorem set6L_in {L : List Value} {o : Nat} (p : B6) (h : o + 6 ≤ L.length) : BIn (set6L L o (.int .i64 p.a) (.int .i64 p.b) (.int .i64 p.c) (.int .i64 p.d) (.int .i64 p.n) (.bool p.s)) o p := by
  intro j u hj
  have hjl : j < 6 := (List.getElem?_eq_some_iff.1 hj).1
  unfold set6L
  rcases (show j = 0 ∨ j = 1 ∨ j = 2 ∨ j = 3 ∨ j = 4 ∨ j = 5 by omega) with rfl | rfl | rfl | rfl | rfl | rfl
  all_goals
    simp [B6.cells] at hj
    subst hj
    simp [List.getElem?_set]
    omega
theorem BIn.off {L : List Value} {o k : Nat} {p : B6} {a b c d n s : Value} (h : BIn L o p) (hk : o + 6 ≤ k) : BIn (set6L L k a b c d n s) o p := by
  intro j u hj
  have hjl : j < 6 := (List.getElem?_eq_some_iff.1 hj).1
  rw [set6L_off (.inl (by omega))]
  exact h j u hj
theorem Box.set6 {w : World} {B o : Nat} {L : List Value} (h : Box w B L) (ho : o + 6 ≤ L.length) (a b c d n s : Value) :
    Box ((((((w.setCell ⟨B, o, none⟩ a).setCell ⟨B, o + 1, none⟩ b).setCell ⟨B, o + 2, none⟩ c).setCell ⟨B, o + 3, none⟩ d).setCell ⟨B, o + 4, none⟩ n).setCell ⟨B, o + 5, none⟩ s) B (set6L L o a b c d n s) :=
  (((((h.set o (by omega) a).set (o + 1) (by simp; omega) b).set (o + 2) (by simp; omega) c).set (o + 3) (by simp; omega) d).set (o + 4) (by simp; omega) n).set (o + 5) (by simp; omega) s
theorem Box.at6 {w : World} {B o : Nat} {L : List Value} (h : Box w B L) (ho : o + 6 ≤ L.length) (j : Nat) (hj : j < 6) : (∃ v, w.cell? ⟨B, o + j, none⟩ = some v) ∧ w.frozen? ⟨B, o + j, none⟩ = false :=
  ⟨⟨_, (h (o + j) _ (List.getElem?_eq_getElem (by omega))).1⟩, (h (o + j) _ (List.getElem?_eq_getElem (by omega))).2⟩

/-- What toBoatS leaves: a new row of the same boats. -/
def NewB (w : World) (bs : List B6) (e : Ending) (w' : World) : Prop := ∃ B L, e = .returned (.slice (some ⟨B, 0, none⟩) bs.length bs.length) ∧ w.heap.size ≤ B ∧ L.length = bs.length * 6 ∧ Box w' B L ∧ (∀ i, i < bs.length → BIn L (i * 6) (bx bs i)) ∧ Ext w w'
theorem bts_of {w : World} {B : Nat} {L : List Value} {bs : List B6} (h : Box w B L) (hi : ∀ i, i < bs.length → BIn L (i * 6) (bx bs i)) (hl : bs.length ≤ maxLen) : Bts w (some ⟨B, 0, none⟩) bs :=
  ⟨hl, .inr ⟨B, 0, rfl, fun i hib j u hj => by rw [Nat.zero_add]; exact (h _ _ (hi i hib j u hj)).1⟩⟩
def RelT6 (w : World) (bs : List B6) (i : Value) (wr : World) : Prop :=
  ∃ (k : Nat) (L : List Value), i = .int .i64 k ∧ k ≤ bs.length ∧ L.length = bs.length * 6 ∧ Box wr w.heap.size L ∧ (∀ j, j < k → BIn L (j * 6) (bx bs j)) ∧ Ext w wr
theorem RelT6.step {w w2 : World} {bs : List B6} {k : Nat} {L : List Value} (hk : k < bs.length) (hL : L.length = bs.length * 6) (hB : Box w2 w.heap.size L) (hd : ∀ j, j < k → BIn L (j * 6) (bx bs j)) (hx : Ext w w2) :
    RelT6 w bs (.int .i64 (k + 1)) ((((((w2.setCell ⟨w.heap.size, k * 6, none⟩ (.int .i64 (bx bs k).a)).setCell ⟨w.heap.size, k * 6 + 1, none⟩ (.int .i64 (bx bs k).b)).setCell ⟨w.heap.size, k * 6 + 2, none⟩ (.int .i64 (bx bs k).c)).setCell ⟨w.heap.size, k * 6 + 3, none⟩ (.int .i64 (bx bs k).d)).setCell ⟨w.heap.size, k * 6 + 4, none⟩ (.int .i64 (bx bs k).n)).setCell ⟨w.heap.size, k * 6 + 5, none⟩ (.bool (bx bs k).s)) := by
  refine ⟨k + 1, _, by go_num, by omega, ?_, Box.set6 hB (by omega) _ _ _ _ _ _, fun j hj => ?_, ?_⟩
  · rw [set6L_len]; exact hL
  · by_cases e : j = k
    · subst e; exact set6L_in _ (by omega)
    · exact (hd j (by omega)).off (by omega)
  · exact (((((hx.setNew (Nat.le_refl _) _).setNew (Nat.le_refl _) _).setNew (Nat.le_refl _) _).setNew (Nat.le_refl _) _).setNew (Nat.le_refl _) _).setNew (Nat.le_refl _) _

theorem boatInfo : (Tryz.prog.info? 39).map (fun i => (i.zero, i.size, i.bytes)) = some (some (.agg #[.int .i64 0, .int .i64 0, .int .i64 0, .int .i64 0, .int .i64 0, .bool false]), 6, 48) := by kernel_rfl
theorem made6 {w' : World} {e : TypeId} {n b g : Nat} {z : Value} (h : w'.ownsRow b e 6 (.slice (some ⟨g, 0, none⟩) n n) n (madeCells z.cells (n * 6)).toList) : Box w' g (madeCells z.cells (n * 6)).toList := by
  intro j v hj
  have hjl := (List.getElem?_eq_some_iff.1 hj).1
  have hjn : j < n * 6 := by simpa [size_madeCells] using hjl
  exact ⟨by rw [h.cellAt j hjn]; exact hj, h.frozenAt j⟩
theorem grown_none6 {w w' : World} (h : w.grownBy w' none) : Ext w w' := by
  obtain ⟨h1, h2, h3, h4, h5⟩ := h
  exact ⟨h1, h2, h3, h4, fun i hi => h5 i hi (by simp)⟩

def RelMB (w : World) (B n : Nat) (k : Int) (s i : Value) (wr : World) : Prop :=
  ∃ (j : Nat) (L : List Value), i = .int .i64 j ∧ s = .int .i64 (k + 6 * j) ∧ j ≤ n ∧ L.length = n * 6 ∧ Box wr B L ∧ Chg B w wr
theorem RelMB.step {w wr : World} {B n j : Nat} {k K : Int} {L : List Value} (hj : j < n) (hL : L.length = n * 6) (hB : Box wr B L) (hx : Chg B w wr) (a b c d e s : Value) (hK : K = k + 6 * (j : Int) + 6) :
    RelMB w B n k (.int .i64 K) (.int .i64 ((j : Int) + 1)) ((((((wr.setCell ⟨B, j * 6, none⟩ a).setCell ⟨B, j * 6 + 1, none⟩ b).setCell ⟨B, j * 6 + 2, none⟩ c).setCell ⟨B, j * 6 + 3, none⟩ d).setCell ⟨B, j * 6 + 4, none⟩ e).setCell ⟨B, j * 6 + 5, none⟩ s) :=
  ⟨j + 1, _, by go_num, by rw [hK]; congr 1; omega, by omega, by rw [set6L_len]; exact hL, Box.set6 hB (by omega) _ _ _ _ _ _, (((((hx.setCell _ _).setCell _ _).setCell _ _).setCell _ _).setCell _ _).setCell _ _⟩

end Go.Proofs.YtlheppblioglpaaGreat.Bts

/- BoatAt of both (chapter 10). -/
namespace Go.Proofs.YtlheppblioglpaaGreat.Bta
open Go.ChangeShapes Go.WideShapes Go.ChangeAt Go.RowKit
open Go.Proofs.YtlheppblioglpaaGreat.Num Go.Proofs.YtlheppblioglpaaGreat.Kit Go.Proofs.YtlheppblioglpaaGreat.Pts Go.Proofs.YtlheppblioglpaaGreat.Seg Go.Proofs.YtlheppblioglpaaGreat.Gcd Go.Proofs.YtlheppblioglpaaGreat.Wnd Go.Proofs.YtlheppblioglpaaGreat.Hul Go.Proofs.YtlheppblioglpaaGreat.Trn
open Go.Proofs.YtlheppblioglpaaGreat.Trk (F3 Fxs Tr trB fx pkX pkY legOf heX heY)
open Go.Proofs.YtlheppblioglpaaGreat.Bts (L6)
set_option linter.unusedVariables false
set_option linter.unusedSimpArgs false

/-- The answers of BoatAt. -/
def baC (x y : Int) (fs : List F3) (t l s : Int) : Int := if tuC x y fs t s = 0 then haC fs t l else tuC x y fs t s
def baV (x y : Int) (fs : List F3) (t l s z : Int) : Int := if baC x y fs t l s = 0 then z else 0
def baB (x y : Int) (fs : List F3) (t l s : Int) : Bool := if baC x y fs t l s = 0 then tuB x y fs t s else false
abbrev baH (x y : Int) (fs : List F3) (t l s : Int) : Value := .agg #[.int .i64 (baV x y fs t l s (pkX fs t (legOf fs t))), .int .i64 (baV x y fs t l s (pkY fs t (legOf fs t))), .int .i64 (baV x y fs t l s (heX fs t)), .int .i64 (baV x y fs t l s (heY fs t)), .int .i64 (baV x y fs t l s l), .bool (baB x y fs t l s)]
theorem ba_no {x y : Int} {fs : List F3} {t l s : Int} (h : baC x y fs t l s ≠ 0) : (∀ z, baV x y fs t l s z = 0) ∧ baB x y fs t l s = false := ⟨fun z => if_neg h, if_neg h⟩
theorem ba_yes {x y : Int} {fs : List F3} {t l s : Int} (h : baC x y fs t l s = 0) : (∀ z, baV x y fs t l s z = z) ∧ baB x y fs t l s = tuB x y fs t s := ⟨fun z => if_pos h, if_pos h⟩
theorem ba_tu {x y : Int} {fs : List F3} {t l s : Int} (h : tuC x y fs t s ≠ 0) : baC x y fs t l s = tuC x y fs t s := if_neg h
theorem ba_ha {x y : Int} {fs : List F3} {t l s : Int} (h : tuC x y fs t s = 0) : baC x y fs t l s = haC fs t l := if_pos h
theorem Box.put6 {w : World} {n : Nat} {x0 x1 x2 x3 x4 x5 : Value} (h : Box w n [x0, x1, x2, x3, x4, x5]) (a b c d e s : Value) : Box ((((((w.setCell ⟨n, 0, none⟩ a).setCell ⟨n, 1, none⟩ b).setCell ⟨n, 2, none⟩ c).setCell ⟨n, 3, none⟩ d).setCell ⟨n, 4, none⟩ e).setCell ⟨n, 5, none⟩ s) n [a, b, c, d, e, s] :=
  (((((h.set 0 (by simp) a).set 1 (by simp) b).set 2 (by simp) c).set 3 (by simp) d).set 4 (by simp) e).set 5 (by simp) s
theorem ext_put6 {w0 w : World} {n : Nat} (h : Ext w0 w) (hn : w0.heap.size ≤ n) (a b c d e s : Value) : Ext w0 ((((((w.setCell ⟨n, 0, none⟩ a).setCell ⟨n, 1, none⟩ b).setCell ⟨n, 2, none⟩ c).setCell ⟨n, 3, none⟩ d).setCell ⟨n, 4, none⟩ e).setCell ⟨n, 5, none⟩ s) :=
  (((((h.setNew hn _).setNew hn _).setNew hn _).setNew hn _).setNew hn _).setNew hn _

theorem bi_done {n : Nat} {w F : World} {tmps : Array Value} {a b c d e k : Int} {s : Bool} (B : Box F n (L6 a b c d e s)) (hC : Ext w F) (h6 : tmps[10]? = some (.pointer (some ⟨n, 0, none⟩))) (h7 : tmps[11]? = some (.int .i64 k)) (X : Value) (hX : X = .agg #[.int .i64 a, .int .i64 b, .int .i64 c, .int .i64 d, .int .i64 e, .bool s]) (K : Int) (hK : K = k) :
    bodyPost Tryz.prog Tryz.f9 (fun e w' => e = .returned (.tuple #[X, .int .i64 K]) ∧ Ext w w') Exit.ret ⟨tmps, []⟩ F := by
  subst hX; subst hK
  obtain ⟨⟨g0, g1, g2, g3, g4, g5⟩, _⟩ := Bts.Box.sixc B
  exact bodyPost_ret (v := .tuple #[.agg #[.int .i64 a, .int .i64 b, .int .i64 c, .int .i64 d, .int .i64 e, .bool s], .int .i64 K]) (by simp [results, Tryz.results9, go_sem, h6, h7, g0, g1, g2, g3, g4, g5]) rfl ⟨rfl, hC⟩

set_option maxRecDepth 100000 in
set_option maxHeartbeats 4000000 in
theorem boatAt_impl (x y : Int) (a : Option Addr) (cap : Nat) (fs : List F3) (t l s : Int) (w : World) (hf : Fxs w a fs) (hl : fs.length ≤ 1048576) (hcap : fs.length ≤ cap) :
    Calls Tryz.prog 9 #[Pt x y, Tr (.slice a fs.length cap), .int .i64 t, .int .i64 l, .int .i64 s] w fun e w' => e = .returned (.tuple #[baH x y fs t l s, .int .i64 (baC x y fs t l s)]) ∧ Ext w w' := by
  have HF := Lib.hid hf
  clear hf
  obtain ⟨W0, hW0⟩ : ∃ W0, W0 = ((w.alloc (.cells #[.int .i64 x, .int .i64 y] 25)).alloc (.cells #[.slice a fs.length cap] 28)).alloc (.cells #[.int .i64 0, .int .i64 0, .int .i64 0, .int .i64 0, .int .i64 0, .bool false] 39) := ⟨_, rfl⟩
  have hX : Ext w W0 := hW0 ▸ ((((Ext.refl w).alloc _).alloc _).alloc _)
  have hs0 : W0.heap.size = w.heap.size + 1 + 1 + 1 := by rw [hW0]; simp
  have e00 : ∀ w', (Ext W0) w' → w'.cell? ⟨w.heap.size, 0, none⟩ = some (.int .i64 x) := fun w' h => h.cellOf (by rw [hW0]; exact (((Ext.refl _).alloc _).alloc _).cellOf (boxed 0 rfl (by simp)))
  have e01 : ∀ w', (Ext W0) w' → w'.cell? ⟨w.heap.size, 1, none⟩ = some (.int .i64 y) := fun w' h => h.cellOf (by rw [hW0]; exact (((Ext.refl _).alloc _).alloc _).cellOf (boxed 1 rfl (by simp)))
  have e10 : ∀ w', (Ext W0) w' → w'.cell? ⟨w.heap.size + 1, 0, none⟩ = some (.slice a fs.length cap) := fun w' h => h.cellOf (by rw [hW0]; exact ((Ext.refl _).alloc _).cellOf (boxed 0 rfl (by simp)))
  have e20 : ∀ w', (Ext W0) w' → w'.cell? ⟨w.heap.size + 1 + 1, 0, none⟩ = some (.int .i64 0) := fun w' h => h.cellOf (by rw [hW0]; exact boxed 0 rfl (by simp))
  have e21 : ∀ w', (Ext W0) w' → w'.cell? ⟨w.heap.size + 1 + 1, 1, none⟩ = some (.int .i64 0) := fun w' h => h.cellOf (by rw [hW0]; exact boxed 1 rfl (by simp))
  have e22 : ∀ w', (Ext W0) w' → w'.cell? ⟨w.heap.size + 1 + 1, 2, none⟩ = some (.int .i64 0) := fun w' h => h.cellOf (by rw [hW0]; exact boxed 2 rfl (by simp))
  have e23 : ∀ w', (Ext W0) w' → w'.cell? ⟨w.heap.size + 1 + 1, 3, none⟩ = some (.int .i64 0) := fun w' h => h.cellOf (by rw [hW0]; exact boxed 3 rfl (by simp))
  have e24 : ∀ w', (Ext W0) w' → w'.cell? ⟨w.heap.size + 1 + 1, 4, none⟩ = some (.int .i64 0) := fun w' h => h.cellOf (by rw [hW0]; exact boxed 4 rfl (by simp))
  have e25 : ∀ w', (Ext W0) w' → w'.cell? ⟨w.heap.size + 1 + 1, 5, none⟩ = some (.bool false) := fun w' h => h.cellOf (by rw [hW0]; exact boxed 5 rfl (by simp))
  have B2 := Lib.hid (show Box W0 (w.heap.size + 1 + 1) (L6 0 0 0 0 0 false) from hW0 ▸ Box.new (vs := L6 0 0 0 0 0 false) (by simp))
  have KT := Lib.hid (turningAt_impl x y a cap fs t s W0 (HF.out.ext hX) hl)
  go_enter Tryz.func9, Tryz.ntmps9
  go_wp2_with fail
  rw [← hW0]
  clear hW0
  refine KT.out.mono ?_
  rintro e w1 ⟨rfl, hz⟩
  replace hz : Ext W0 w1 := hz
  clear KT
  by_cases hc : tuC x y fs t s = 0
  · have HB0 := Lib.hid (ba_ha (l := l) hc)
    have KH := Lib.hid (hullAt_impl a cap fs t l w1 (HF.out.ext (hX.trans hz)) hcap)
    have g10 := e10 w1 hz
    rw [hc]
    clear hc
    go_wp2_with fail
    refine KH.out.mono ?_
    rintro e w2 ⟨rfl, hy⟩
    replace hz := hz.trans hy
    clear hy KH g10
    by_cases hh : haC fs t l = 0
    · have HB := Lib.hid (ba_yes (HB0.out.trans hh))
      have HC := Lib.hid (HB0.out.trans hh)
      have e : ∀ z, haV fs t l z = z := fun z => if_pos hh
      rw [show haH fs t l = Hv (pkX fs t (legOf fs t)) (pkY fs t (legOf fs t)) (heX fs t) (heY fs t) l from ha_yes hh, hh]
      have HE := Lib.hid (show baH x y fs t l s = .agg #[.int .i64 (pkX fs t (legOf fs t)), .int .i64 (pkY fs t (legOf fs t)), .int .i64 (heX fs t), .int .i64 (heY fs t), .int .i64 l, .bool (tuB x y fs t s)] by unfold baH; rw [HB.out.1, HB.out.1, HB.out.1, HB.out.1, HB.out.1, HB.out.2])
      clear e hh HB
      generalize pkX fs t (legOf fs t) = v1 at *
      generalize pkY fs t (legOf fs t) = v2 at *
      generalize heX fs t = v3 at *
      generalize heY fs t = v4 at *
      generalize tuB x y fs t s = v6 at *
      have zz : Ext W0 (w2.alloc (.cells #[.int .i64 v1, .int .i64 v2, .int .i64 v3, .int .i64 v4, .int .i64 l] 37)) := hz.alloc _
      obtain ⟨⟨r0, r1, r2, r3, r4, r5⟩, q0, q1, q2, q3, q4, q5⟩ := Bts.Box.sixc (B2.out.ext zz)
      obtain ⟨⟨k0, k1, k2, k3, k4⟩, _⟩ := (show Box (w2.alloc (.cells #[.int .i64 v1, .int .i64 v2, .int .i64 v3, .int .i64 v4, .int .i64 l] 37)) w2.heap.size [.int .i64 v1, .int .i64 v2, .int .i64 v3, .int .i64 v4, .int .i64 l] from Box.new5 rfl).five
      go_wp2
      exact bi_done (Box.put6 (B2.out.ext zz) _ _ _ _ _ _) (ext_put6 (hX.trans zz) (by omega) _ _ _ _ _ _) rfl rfl _ HE.out _ HC.out
    · have HB := Lib.hid (ba_no (show baC x y fs t l s ≠ 0 by rw [HB0.out]; exact hh))
      have HE := Lib.hid (show baH x y fs t l s = .agg #[.int .i64 0, .int .i64 0, .int .i64 0, .int .i64 0, .int .i64 0, .bool false] by unfold baH; rw [HB.out.1, HB.out.1, HB.out.1, HB.out.1, HB.out.1, HB.out.2])
      have hh2 : (haC fs t l != 0) = true := by simpa using hh
      rw [show haH fs t l = Hv 0 0 0 0 0 from ha_no hh]
      clear HB hh
      generalize haC fs t l = k at *
      have zz : Ext W0 (w2.alloc (.cells #[.int .i64 0, .int .i64 0, .int .i64 0, .int .i64 0, .int .i64 0] 37)) := hz.alloc _
      obtain ⟨⟨r0, r1, r2, r3, r4, r5⟩, q0, q1, q2, q3, q4, q5⟩ := Bts.Box.sixc (B2.out.ext zz)
      go_wp2
      exact bi_done (Box.put6 (B2.out.ext zz) _ _ _ _ _ _) (ext_put6 (hX.trans zz) (by omega) _ _ _ _ _ _) rfl rfl _ HE.out _ HB0.out
  · have HB0 := Lib.hid (ba_tu (l := l) hc)
    have HB := Lib.hid (ba_no (show baC x y fs t l s ≠ 0 by rw [HB0.out]; exact hc))
    have HE := Lib.hid (show baH x y fs t l s = .agg #[.int .i64 0, .int .i64 0, .int .i64 0, .int .i64 0, .int .i64 0, .bool false] by unfold baH; rw [HB.out.1, HB.out.1, HB.out.1, HB.out.1, HB.out.1, HB.out.2])
    have hc2 : (tuC x y fs t s != 0) = true := by simpa using hc
    clear HB hc
    generalize tuC x y fs t s = k at *
    generalize tuB x y fs t s = v6 at *
    obtain ⟨⟨r0, r1, r2, r3, r4, r5⟩, q0, q1, q2, q3, q4, q5⟩ := Bts.Box.sixc (B2.out.ext hz)
    go_wp2
    exact bi_done (Box.put6 (B2.out.ext hz) _ _ _ _ _ _) (ext_put6 (hX.trans hz) (by omega) _ _ _ _ _ _) rfl rfl _ HE.out _ HB0.out

theorem bs_done {n : Nat} {w F : World} {tmps : Array Value} {a b c d e k : Int} {s : Bool} (B : Box F n (L6 a b c d e s)) (hC : Ext w F) (h6 : tmps[10]? = some (.pointer (some ⟨n, 0, none⟩))) (h7 : tmps[11]? = some (.int .i64 k)) (X : Value) (hX : X = .agg #[.int .i64 a, .int .i64 b, .int .i64 c, .int .i64 d, .int .i64 e, .bool s]) (K : Int) (hK : K = k) :
    bodyPost Tryz.prog Tryz.f23 (fun e w' => e = .returned (.tuple #[X, .int .i64 K]) ∧ Ext w w') Exit.ret ⟨tmps, []⟩ F := by
  subst hX; subst hK
  obtain ⟨⟨g0, g1, g2, g3, g4, g5⟩, _⟩ := Bts.Box.sixc B
  exact bodyPost_ret (v := .tuple #[.agg #[.int .i64 a, .int .i64 b, .int .i64 c, .int .i64 d, .int .i64 e, .bool s], .int .i64 K]) (by simp [results, Tryz.results23, go_sem, h6, h7, g0, g1, g2, g3, g4, g5]) rfl ⟨rfl, hC⟩

set_option maxRecDepth 100000 in
set_option maxHeartbeats 4000000 in
theorem boatAt_spec (x y : Int) (a : Option Addr) (cap : Nat) (fs : List F3) (t l s : Int) (w : World) (hf : Fxs w a fs) (hcap : fs.length ≤ cap) :
    Calls Tryz.prog 23 #[Pt x y, Tr (.slice a fs.length cap), .int .i64 t, .int .i64 l, .int .i64 s] w fun e w' => e = .returned (.tuple #[baH x y fs t l s, .int .i64 (baC x y fs t l s)]) ∧ Ext w w' := by
  have HF := Lib.hid hf
  clear hf
  obtain ⟨W0, hW0⟩ : ∃ W0, W0 = ((w.alloc (.cells #[.int .i64 x, .int .i64 y] 25)).alloc (.cells #[.slice a fs.length cap] 28)).alloc (.cells #[.int .i64 0, .int .i64 0, .int .i64 0, .int .i64 0, .int .i64 0, .bool false] 39) := ⟨_, rfl⟩
  have hX : Ext w W0 := hW0 ▸ ((((Ext.refl w).alloc _).alloc _).alloc _)
  have hs0 : W0.heap.size = w.heap.size + 1 + 1 + 1 := by rw [hW0]; simp
  have e00 : ∀ w', (Ext W0) w' → w'.cell? ⟨w.heap.size, 0, none⟩ = some (.int .i64 x) := fun w' h => h.cellOf (by rw [hW0]; exact (((Ext.refl _).alloc _).alloc _).cellOf (boxed 0 rfl (by simp)))
  have e01 : ∀ w', (Ext W0) w' → w'.cell? ⟨w.heap.size, 1, none⟩ = some (.int .i64 y) := fun w' h => h.cellOf (by rw [hW0]; exact (((Ext.refl _).alloc _).alloc _).cellOf (boxed 1 rfl (by simp)))
  have e10 : ∀ w', (Ext W0) w' → w'.cell? ⟨w.heap.size + 1, 0, none⟩ = some (.slice a fs.length cap) := fun w' h => h.cellOf (by rw [hW0]; exact ((Ext.refl _).alloc _).cellOf (boxed 0 rfl (by simp)))
  have e20 : ∀ w', (Ext W0) w' → w'.cell? ⟨w.heap.size + 1 + 1, 0, none⟩ = some (.int .i64 0) := fun w' h => h.cellOf (by rw [hW0]; exact boxed 0 rfl (by simp))
  have e21 : ∀ w', (Ext W0) w' → w'.cell? ⟨w.heap.size + 1 + 1, 1, none⟩ = some (.int .i64 0) := fun w' h => h.cellOf (by rw [hW0]; exact boxed 1 rfl (by simp))
  have e22 : ∀ w', (Ext W0) w' → w'.cell? ⟨w.heap.size + 1 + 1, 2, none⟩ = some (.int .i64 0) := fun w' h => h.cellOf (by rw [hW0]; exact boxed 2 rfl (by simp))
  have e23 : ∀ w', (Ext W0) w' → w'.cell? ⟨w.heap.size + 1 + 1, 3, none⟩ = some (.int .i64 0) := fun w' h => h.cellOf (by rw [hW0]; exact boxed 3 rfl (by simp))
  have e24 : ∀ w', (Ext W0) w' → w'.cell? ⟨w.heap.size + 1 + 1, 4, none⟩ = some (.int .i64 0) := fun w' h => h.cellOf (by rw [hW0]; exact boxed 4 rfl (by simp))
  have e25 : ∀ w', (Ext W0) w' → w'.cell? ⟨w.heap.size + 1 + 1, 5, none⟩ = some (.bool false) := fun w' h => h.cellOf (by rw [hW0]; exact boxed 5 rfl (by simp))
  have B2 := Lib.hid (show Box W0 (w.heap.size + 1 + 1) (L6 0 0 0 0 0 false) from hW0 ▸ Box.new (vs := L6 0 0 0 0 0 false) (by simp))
  have KT := Lib.hid (turningAt_spec x y a cap fs t s W0 (HF.out.ext hX))
  go_enter Tryz.func23, Tryz.ntmps23
  go_wp2_with fail
  rw [← hW0]
  clear hW0
  refine KT.out.mono ?_
  rintro e w1 ⟨rfl, hz⟩
  replace hz : Ext W0 w1 := hz
  clear KT
  by_cases hc : tuC x y fs t s = 0
  · have HB0 := Lib.hid (ba_ha (l := l) hc)
    have KH := Lib.hid (hullAt_spec a cap fs t l w1 (HF.out.ext (hX.trans hz)) hcap)
    have g10 := e10 w1 hz
    rw [hc]
    clear hc
    go_wp2_with fail
    refine KH.out.mono ?_
    rintro e w2 ⟨rfl, hy⟩
    replace hz := hz.trans hy
    clear hy KH g10
    by_cases hh : haC fs t l = 0
    · have HB := Lib.hid (ba_yes (HB0.out.trans hh))
      have HC := Lib.hid (HB0.out.trans hh)
      have e : ∀ z, haV fs t l z = z := fun z => if_pos hh
      rw [show haH fs t l = Hv (pkX fs t (legOf fs t)) (pkY fs t (legOf fs t)) (heX fs t) (heY fs t) l from ha_yes hh, hh]
      have HE := Lib.hid (show baH x y fs t l s = .agg #[.int .i64 (pkX fs t (legOf fs t)), .int .i64 (pkY fs t (legOf fs t)), .int .i64 (heX fs t), .int .i64 (heY fs t), .int .i64 l, .bool (tuB x y fs t s)] by unfold baH; rw [HB.out.1, HB.out.1, HB.out.1, HB.out.1, HB.out.1, HB.out.2])
      clear e hh HB
      generalize pkX fs t (legOf fs t) = v1 at *
      generalize pkY fs t (legOf fs t) = v2 at *
      generalize heX fs t = v3 at *
      generalize heY fs t = v4 at *
      generalize tuB x y fs t s = v6 at *
      have zz : Ext W0 (w2.alloc (.cells #[.int .i64 v1, .int .i64 v2, .int .i64 v3, .int .i64 v4, .int .i64 l] 37)) := hz.alloc _
      obtain ⟨⟨r0, r1, r2, r3, r4, r5⟩, q0, q1, q2, q3, q4, q5⟩ := Bts.Box.sixc (B2.out.ext zz)
      obtain ⟨⟨k0, k1, k2, k3, k4⟩, _⟩ := (show Box (w2.alloc (.cells #[.int .i64 v1, .int .i64 v2, .int .i64 v3, .int .i64 v4, .int .i64 l] 37)) w2.heap.size [.int .i64 v1, .int .i64 v2, .int .i64 v3, .int .i64 v4, .int .i64 l] from Box.new5 rfl).five
      go_wp2
      exact bs_done (Box.put6 (B2.out.ext zz) _ _ _ _ _ _) (ext_put6 (hX.trans zz) (by omega) _ _ _ _ _ _) rfl rfl _ HE.out _ HC.out
    · have HB := Lib.hid (ba_no (show baC x y fs t l s ≠ 0 by rw [HB0.out]; exact hh))
      have HE := Lib.hid (show baH x y fs t l s = .agg #[.int .i64 0, .int .i64 0, .int .i64 0, .int .i64 0, .int .i64 0, .bool false] by unfold baH; rw [HB.out.1, HB.out.1, HB.out.1, HB.out.1, HB.out.1, HB.out.2])
      have hh2 : (haC fs t l != 0) = true := by simpa using hh
      rw [show haH fs t l = Hv 0 0 0 0 0 from ha_no hh]
      clear HB hh
      generalize haC fs t l = k at *
      have zz : Ext W0 (w2.alloc (.cells #[.int .i64 0, .int .i64 0, .int .i64 0, .int .i64 0, .int .i64 0] 37)) := hz.alloc _
      obtain ⟨⟨r0, r1, r2, r3, r4, r5⟩, q0, q1, q2, q3, q4, q5⟩ := Bts.Box.sixc (B2.out.ext zz)
      go_wp2
      exact bs_done (Box.put6 (B2.out.ext zz) _ _ _ _ _ _) (ext_put6 (hX.trans zz) (by omega) _ _ _ _ _ _) rfl rfl _ HE.out _ HB0.out
  · have HB0 := Lib.hid (ba_tu (l := l) hc)
    have HB := Lib.hid (ba_no (show baC x y fs t l s ≠ 0 by rw [HB0.out]; exact hc))
    have HE := Lib.hid (show baH x y fs t l s = .agg #[.int .i64 0, .int .i64 0, .int .i64 0, .int .i64 0, .int .i64 0, .bool false] by unfold baH; rw [HB.out.1, HB.out.1, HB.out.1, HB.out.1, HB.out.1, HB.out.2])
    have hc2 : (tuC x y fs t s != 0) = true := by simpa using hc
    clear HB hc
    generalize tuC x y fs t s = k at *
    generalize tuB x y fs t s = v6 at *
    obtain ⟨⟨r0, r1, r2, r3, r4, r5⟩, q0, q1, q2, q3, q4, q5⟩ := Bts.Box.sixc (B2.out.ext hz)
    go_wp2
    exact bs_done (Box.put6 (B2.out.ext hz) _ _ _ _ _ _) (ext_put6 (hX.trans hz) (by omega) _ _ _ _ _ _) rfl rfl _ HE.out _ HB0.out

end Go.Proofs.YtlheppblioglpaaGreat.Bta
