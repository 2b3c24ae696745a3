/- Rows of boats (chapter 10): reading them, and the contracts of the conversions and comparisons that the exact laws use. -/
import Derived.Test.YtcangdcakgcpaaaMnv
import Derived.Test.YtcangdcakgcpaaaHulL
import Derived.Deep.QuietTactic
import Derived.BigQuiet
import Derived.Lib.SmallJoins
import Derived.OpenShut
import Derived.Deep.Slices
import Derived.Deep.Fields
import Derived.ChangeSame
namespace Go.Proofs.Ytcangdcakgcpaaa.Bts
open Go.ChangeShapes Go.WideShapes Go.ChangeAt Go.RowKit Go.Deep
open Go.Proofs.Ytcangdcakgcpaaa.Num Go.Proofs.Ytcangdcakgcpaaa.Kit Go.Proofs.Ytcangdcakgcpaaa.Pts Go.Proofs.Ytcangdcakgcpaaa.Seg Go.Proofs.Ytcangdcakgcpaaa.Hul
open Go.Proofs.Ytcangdcakgcpaaa.Mnv (set_other RelE)
set_option linter.unusedVariables false
set_option linter.unusedSimpArgs false

/-- A boat: bow, heading, length, and whether it is turning. -/
structure B6 where
  a : Int
  b : Int
  c : Int
  d : Int
  n : Int
  s : Bool
def B6.cells (p : B6) : List Value := [.int .i64 p.a, .int .i64 p.b, .int .i64 p.c, .int .i64 p.d, .int .i64 p.n, .bool p.s]
abbrev B6.v (p : B6) : Value := .agg #[.int .i64 p.a, .int .i64 p.b, .int .i64 p.c, .int .i64 p.d, .int .i64 p.n, .bool p.s]
abbrev B6.h (p : B6) : Value := Hv p.a p.b p.c p.d p.n
def bx (bs : List B6) (i : Nat) : B6 := bs.getD i ⟨0, 0, 0, 0, 0, false⟩
theorem bx_at {bs : List B6} {i : Nat} (h : i < bs.length) : bs[i]? = some (bx bs i) := by
  unfold bx
  rw [List.getD_eq_getElem?_getD, List.getElem?_eq_getElem h]; rfl
theorem bx_snoc (fs : List B6) (f : B6) (i : Nat) : bx (fs ++ [f]) i = if i < fs.length then bx fs i else if i = fs.length then f else ⟨0, 0, 0, 0, 0, false⟩ := by
  unfold bx
  rw [List.getD_eq_getElem?_getD, List.getD_eq_getElem?_getD, List.getElem?_append]
  by_cases h : i < fs.length
  · rw [if_pos h, if_pos h]
  · rw [if_neg h, if_neg h]
    by_cases h2 : i = fs.length
    · subst h2; simp
    · rw [if_neg h2, List.getElem?_eq_none (by simp; omega)]; rfl
/-- A boat lies at an address. -/
def BAt (w : World) (b o : Nat) (p : B6) : Prop := ∀ j u, p.cells[j]? = some u → w.cell? ⟨b, o + j, none⟩ = some u
theorem BAt.ext {w w' : World} {b o : Nat} {p : B6} (h : BAt w b o p) (k : Ext w w') : BAt w' b o p := fun j u hj => k.cellOf (h j u hj)
theorem BAt.six {w : World} {b o : Nat} {p : B6} (h : BAt w b o p) : w.cell? ⟨b, o, none⟩ = some (.int .i64 p.a) ∧ w.cell? ⟨b, o + 1, none⟩ = some (.int .i64 p.b) ∧ w.cell? ⟨b, o + 2, none⟩ = some (.int .i64 p.c) ∧ w.cell? ⟨b, o + 3, none⟩ = some (.int .i64 p.d) ∧ w.cell? ⟨b, o + 4, none⟩ = some (.int .i64 p.n) ∧ w.cell? ⟨b, o + 5, none⟩ = some (.bool p.s) :=
  ⟨h 0 _ rfl, h 1 _ rfl, h 2 _ rfl, h 3 _ rfl, h 4 _ rfl, h 5 _ rfl⟩
theorem gather6 {w : World} {b off : Nat} : ∀ n : Nat, (∀ i, i < n → ∃ f : B6, BAt w b (off + i * 6) f) → ∃ fs : List B6, fs.length = n ∧ ∀ i, i < n → BAt w b (off + i * 6) (bx fs i)
  | 0, _ => ⟨[], rfl, fun i hi => absurd hi (by omega)⟩
  | n + 1, h => by
    obtain ⟨fs, hl, hf⟩ := gather6 n (fun i hi => h i (by omega))
    obtain ⟨f, g⟩ := h n (by omega)
    refine ⟨fs ++ [f], by simp [hl], fun i hi => ?_⟩
    rw [bx_snoc]
    by_cases h1 : i < fs.length
    · rw [if_pos h1]; exact hf i (by omega)
    · obtain rfl : i = n := by omega
      rw [if_neg h1, if_pos hl.symm]; exact g
/-- A slice that reads as a list of boats. -/
def Bts (w : World) (a : Option Addr) (bs : List B6) : Prop :=
  bs.length ≤ maxLen ∧ (bs = [] ∨ ∃ b off, a = some ⟨b, off, none⟩ ∧ ∀ i, i < bs.length → BAt w b (off + i * 6) (bx bs i))
theorem Bts.ext {w w' : World} {a : Option Addr} {bs : List B6} (h : Bts w a bs) (k : Ext w w') : Bts w' a bs := by
  refine ⟨h.1, ?_⟩
  rcases h.2 with h | ⟨b, off, ha, h⟩
  · exact .inl h
  · exact .inr ⟨b, off, ha, fun i hi => (h i hi).ext k⟩
theorem Bts.row {w : World} {a : Option Addr} {bs : List B6} (h : Bts w a bs) (h0 : 0 < bs.length) : ∃ b off, a = some ⟨b, off, none⟩ ∧ ∀ i, i < bs.length → BAt w b (off + i * 6) (bx bs i) := by
  rcases h.2 with e | e
  · rw [e] at h0; simp at h0
  · exact e
/-- Block B holds the boats of a list one behind the other, and may be written. -/
def Own6 (w : World) (B : Nat) (bs : List B6) : Prop := ∀ i, i < bs.length → BAt w B (i * 6) (bx bs i) ∧ ∀ j, j < 6 → w.frozen? ⟨B, i * 6 + j, none⟩ = false
theorem Own6.ext {w w' : World} {B : Nat} {bs : List B6} (h : Own6 w B bs) (k : Ext w w') : Own6 w' B bs :=
  fun i hi => ⟨(h i hi).1.ext k, fun j hj => k.thawOf ((h i hi).1 j _ (List.getElem?_eq_getElem (show j < (bx bs i).cells.length by simp [B6.cells]; omega))) ((h i hi).2 j hj)⟩
theorem Own6.bts {w : World} {B : Nat} {bs : List B6} (h : Own6 w B bs) (hl : bs.length ≤ maxLen) : Bts w (some ⟨B, 0, none⟩) bs :=
  ⟨hl, .inr ⟨B, 0, rfl, fun i hi => by rw [Nat.zero_add]; exact (h i hi).1⟩⟩

end Go.Proofs.Ytcangdcakgcpaaa.Bts
