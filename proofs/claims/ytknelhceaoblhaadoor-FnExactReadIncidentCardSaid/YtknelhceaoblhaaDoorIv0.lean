/- Incidents (chapter 12) as values: their cells, rows of them. Of no program. -/
import Derived.Test.YtknelhceaoblhaaDoorCel
import Derived.Test.YtknelhceaoblhaaDoorRes5
import Derived.OwnWalk
import Derived.Laws.OwnMore
namespace Go.Proofs.YtknelhceaoblhaaDoor.Iv
open Go.ChangeShapes Go.WideShapes Go.ChangeAt Go.RowKit
open Go.Proofs.YtknelhceaoblhaaDoor.Kit
set_option linter.unusedVariables false
set_option linter.unusedSimpArgs false

/-- An incident: its time, its boats, the one that keeps clear, the reason. -/
structure I5 where
  t : Int
  f : Int
  s : Int
  k : Int
  r : Int
deriving DecidableEq
abbrev V5 (a b c d e : Int) : Value := .agg #[.int .i64 a, .int .i64 b, .int .i64 c, .int .i64 d, .int .i64 e]
abbrev L5 (a b c d e : Int) : List Value := [.int .i64 a, .int .i64 b, .int .i64 c, .int .i64 d, .int .i64 e]
abbrev I5.v (x : I5) : Value := V5 x.t x.f x.s x.k x.r
def I5.cells (x : I5) : List Value := L5 x.t x.f x.s x.k x.r
theorem ic_len (x : I5) : x.cells.length = 5 := rfl
def ix (xs : List I5) (i : Nat) : I5 := xs.getD i ⟨0, 0, 0, 0, 0⟩
theorem ix_at {xs : List I5} {i : Nat} (h : i < xs.length) : xs[i]? = some (ix xs i) := by
  unfold ix
  rw [List.getD_eq_getElem?_getD, List.getElem?_eq_getElem h]; rfl
theorem ix_snoc (fs : List I5) (f : I5) (i : Nat) : ix (fs ++ [f]) i = if i < fs.length then ix fs i else if i = fs.length then f else ⟨0, 0, 0, 0, 0⟩ := by
  unfold ix
  rw [List.getD_eq_getElem?_getD, List.getD_eq_getElem?_getD, List.getElem?_append]
  by_cases h : i < fs.length
  · rw [if_pos h, if_pos h]
  · rw [if_neg h, if_neg h]
    by_cases h2 : i = fs.length
    · subst h2; simp
    · rw [if_neg h2, List.getElem?_eq_none (by simp; omega)]; rfl
/-- An incident lies at an address. -/
def IAt (w : World) (b o : Nat) (p : I5) : Prop := ∀ j u, p.cells[j]? = some u → w.cell? ⟨b, o + j, none⟩ = some u
theorem IAt.ext {w w' : World} {b o : Nat} {p : I5} (h : IAt w b o p) (k : Ext w w') : IAt w' b o p := fun j u hj => k.cellOf (h j u hj)
theorem IAt.five {w : World} {b o : Nat} {p : I5} (h : IAt w b o p) : w.cell? ⟨b, o, none⟩ = some (.int .i64 p.t) ∧ w.cell? ⟨b, o + 1, none⟩ = some (.int .i64 p.f) ∧ w.cell? ⟨b, o + 2, none⟩ = some (.int .i64 p.s) ∧ w.cell? ⟨b, o + 3, none⟩ = some (.int .i64 p.k) ∧ w.cell? ⟨b, o + 4, none⟩ = some (.int .i64 p.r) :=
  ⟨h 0 _ rfl, h 1 _ rfl, h 2 _ rfl, h 3 _ rfl, h 4 _ rfl⟩
theorem gather5 {w : World} {b off : Nat} : ∀ n : Nat, (∀ i, i < n → ∃ f : I5, IAt w b (off + i * 5) f) → ∃ fs : List I5, fs.length = n ∧ ∀ i, i < n → IAt w b (off + i * 5) (ix fs i)
  | 0, _ => ⟨[], rfl, fun i hi => absurd hi (by omega)⟩
  | n + 1, h => by
    obtain ⟨fs, hl, hf⟩ := gather5 n (fun i hi => h i (by omega))
    obtain ⟨f, g⟩ := h n (by omega)
    refine ⟨fs ++ [f], by simp [hl], fun i hi => ?_⟩
    rw [ix_snoc]
    by_cases h1 : i < fs.length
    · rw [if_pos h1]; exact hf i (by omega)
    · obtain rfl : i = n := by omega
      rw [if_neg h1, if_pos hl.symm]; exact g
/-- A slice that reads as a list of incidents. -/
def Ivs (w : World) (a : Option Addr) (xs : List I5) : Prop :=
  xs.length ≤ maxLen ∧ (xs = [] ∨ ∃ b off, a = some ⟨b, off, none⟩ ∧ ∀ i, i < xs.length → IAt w b (off + i * 5) (ix xs i))
theorem Ivs.ext {w w' : World} {a : Option Addr} {xs : List I5} (h : Ivs w a xs) (k : Ext w w') : Ivs w' a xs := by
  refine ⟨h.1, ?_⟩
  rcases h.2 with h | ⟨b, off, ha, h⟩
  · exact .inl h
  · exact .inr ⟨b, off, ha, fun i hi => (h i hi).ext k⟩
theorem Ivs.row {w : World} {a : Option Addr} {xs : List I5} (h : Ivs w a xs) (h0 : 0 < xs.length) : ∃ b off, a = some ⟨b, off, none⟩ ∧ ∀ i, i < xs.length → IAt w b (off + i * 5) (ix xs i) := by
  rcases h.2 with e | e
  · rw [e] at h0; simp at h0
  · exact e
def cellsI (xs : List I5) : List Value := xs.flatMap I5.cells
theorem cellsI_app (xs : List I5) (x : I5) : cellsI xs ++ x.cells = cellsI (xs ++ [x]) := by simp [cellsI]
theorem cellsI_append (xs ys : List I5) : cellsI xs ++ cellsI ys = cellsI (xs ++ ys) := by simp [cellsI]
theorem cellsI_len : ∀ xs : List I5, (cellsI xs).length = xs.length * 5
  | [] => rfl
  | x :: xs => by
    have h := cellsI_len xs
    have e : cellsI (x :: xs) = x.cells ++ cellsI xs := by simp [cellsI]
    rw [e, List.length_append, h, ic_len, List.length_cons]; omega
theorem cellsI_get : ∀ (xs : List I5) (i : Nat) (p : I5), xs[i]? = some p → ∀ j u, p.cells[j]? = some u → (cellsI xs)[i * 5 + j]? = some u
  | [], i, p, h, _, _, _ => by simp at h
  | q :: xs, 0, p, h, j, u, hj => by
    simp at h; subst h
    have e : cellsI (q :: xs) = q.cells ++ cellsI xs := by simp [cellsI]
    have := (List.getElem?_eq_some_iff.1 hj).1
    rw [e, List.getElem?_append_left (by omega), Nat.zero_mul, Nat.zero_add]; exact hj
  | q :: xs, i + 1, p, h, j, u, hj => by
    have := cellsI_get xs i p (by simpa using h) j u hj
    have e : cellsI (q :: xs) = q.cells ++ cellsI xs := by simp [cellsI]
    have l := ic_len q
    rw [e, List.getElem?_append_right (by omega), l, show (i + 1) * 5 + j - 5 = i * 5 + j by omega]
    exact this
/-- An incident lies in a list of cells. -/
def IIn (L : List Value) (o : Nat) (p : I5) : Prop := ∀ j u, p.cells[j]? = some u → L[o + j]? = some u
theorem cellsI_in (xs : List I5) (i : Nat) (h : i < xs.length) : IIn (cellsI xs) (i * 5) (ix xs i) := fun j u hj => cellsI_get xs i _ (ix_at h) j u hj
def set5L (L : List Value) (o : Nat) (a b c d n : Value) : List Value := ((((L.set o a).set (o + 1) b).set (o + 2) c).set (o + 3) d).set (o + 4) n
theorem set5L_len (L : List Value) (o : Nat) (a b c d n : Value) : (set5L L o a b c d n).length = L.length := by simp [set5L]
theorem set5L_off {L : List Value} {o i : Nat} {a b c d n : Value} (h : i < o ∨ o + 4 < i) : (set5L L o a b c d n)[i]? = L[i]? := by
  unfold set5L
  rw [List.getElem?_set_ne (by omega), List.getElem?_set_ne (by omega), List.getElem?_set_ne (by omega), List.getElem?_set_ne (by omega), List.getElem?_set_ne (by omega)]
theorem set5L_in {L : List Value} {o : Nat} (p : I5) (h : o + 5 ≤ L.length) : IIn (set5L L o (.int .i64 p.t) (.int .i64 p.f) (.int .i64 p.s) (.int .i64 p.k) (.int .i64 p.r)) o p := by
  intro j u hj
  have hjl : j < 5 := (List.getElem?_eq_some_iff.1 hj).1
  unfold set5L
  rcases (show j = 0 ∨ j = 1 ∨ j = 2 ∨ j = 3 ∨ j = 4 by omega) with rfl | rfl | rfl | rfl | rfl
  all_goals
    simp [I5.cells] at hj
    subst hj
    simp [List.getElem?_set]
    omega
theorem IIn.off {L : List Value} {o k : Nat} {p : I5} {a b c d n : Value} (h : IIn L o p) (hk : o + 5 ≤ k) : IIn (set5L L k a b c d n) o p := by
  intro j u hj
  have hjl : j < 5 := (List.getElem?_eq_some_iff.1 hj).1
  rw [set5L_off (.inl (by omega))]
  exact h j u hj
theorem Box.put5 {w : World} {B o : Nat} {L : List Value} (h : Box w B L) (ho : o + 5 ≤ L.length) (a b c d n : Value) :
    Box (((((w.setCell ⟨B, o, none⟩ a).setCell ⟨B, o + 1, none⟩ b).setCell ⟨B, o + 2, none⟩ c).setCell ⟨B, o + 3, none⟩ d).setCell ⟨B, o + 4, none⟩ n) B (set5L L o a b c d n) :=
  ((((h.set o (by omega) a).set (o + 1) (by simp; omega) b).set (o + 2) (by simp; omega) c).set (o + 3) (by simp; omega) d).set (o + 4) (by simp; omega) n
theorem Box.at5 {w : World} {B o : Nat} {L : List Value} (h : Box w B L) (ho : o + 5 ≤ L.length) (j : Nat) (hj : j < 5) : (∃ v, w.cell? ⟨B, o + j, none⟩ = some v) ∧ w.frozen? ⟨B, o + j, none⟩ = false :=
  ⟨⟨_, (h (o + j) _ (List.getElem?_eq_getElem (by omega))).1⟩, (h (o + j) _ (List.getElem?_eq_getElem (by omega))).2⟩
theorem ivs_of {w : World} {B : Nat} {L : List Value} {xs : List I5} (h : Box w B L) (hi : ∀ i, i < xs.length → IIn L (i * 5) (ix xs i)) (hl : xs.length ≤ maxLen) : Ivs w (some ⟨B, 0, none⟩) xs :=
  ⟨hl, .inr ⟨B, 0, rfl, fun i hib j u hj => by rw [Nat.zero_add]; exact (h _ _ (hi i hib j u hj)).1⟩⟩
theorem made5 {w' : World} {e : TypeId} {n b g : Nat} {z : Value} (h : w'.ownsRow b e 5 (.slice (some ⟨g, 0, none⟩) n n) n (madeCells z.cells (n * 5)).toList) : Box w' g (madeCells z.cells (n * 5)).toList := by
  intro j v hj
  have hjl := (List.getElem?_eq_some_iff.1 hj).1
  have hjn : j < n * 5 := by simpa [size_madeCells] using hjl
  exact ⟨by rw [h.cellAt j hjn]; exact hj, h.frozenAt j⟩
theorem grown_none5 {w w' : World} (h : w.grownBy w' none) : Ext w w' := by
  obtain ⟨h1, h2, h3, h4, h5⟩ := h
  exact ⟨h1, h2, h3, h4, fun i hi => h5 i hi (by simp)⟩

end Go.Proofs.YtknelhceaoblhaaDoor.Iv
