/- Reading structs of four and of five numbers that came in, and rows of the latter (watches, incidents). Of no program. -/
import Derived.Test.YtknelhceaoblhaaDoorOpn5
import Derived.Test.YtknelhceaoblhaaDoorIv0
import Derived.Deep.Slices
import Derived.Deep.Fields
import Derived.ChangeSame
namespace Go.Proofs.YtknelhceaoblhaaDoor.OpnI
open Go.ChangeShapes Go.WideShapes Go.ChangeAt Go.RowKit Go.Deep
open Go.Proofs.YtknelhceaoblhaaDoor.Opn5 Go.Proofs.YtknelhceaoblhaaDoor.Iv
set_option linter.unusedVariables false
set_option linter.unusedSimpArgs false

section
variable {H : Type} {enc : TypeId × Value → H} {P : Program} {w : World} {base : Nat} {spare : Nat → Bool} {held : Bool}

theorem open_four {r : Reach} {b0 : Nat} {t : TypeId} {f0 f1 f2 f3 : Field} {v : Value} {d : DataW H} {p : List MemPlace} (hs : P.underlying t = some (.struct #[f0, f1, f2, f3])) (hC : P.cellsOf t = 4)
    (l0 : Lay P f0 0 1) (l1 : Lay P f1 1 1) (l2 : Lay P f2 2 1) (l3 : Lay P f3 3 1)
    (i0 : P.underlying f0.type = some (.int .i64)) (i1 : P.underlying f1.type = some (.int .i64)) (i2 : P.underlying f2.type = some (.int .i64)) (i3 : P.underlying f3.type = some (.int .i64))
    (hv : Value.okWide P w r b0 t v) (h : DataW.Trod enc P w base spare held t v d p) :
    ∃ a b c x : Int, v = .agg #[.int .i64 a, .int .i64 b, .int .i64 c, .int .i64 x] := by
  obtain ⟨cs, rfl, hsz⟩ := okWide_struct hs hv
  obtain ⟨fuel, hf⟩ := h
  obtain ⟨xs, n, _, _, hcl, hxl, hg⟩ := DataW.trod_struct hs hf
  rw [hC] at hcl
  simp only [Value.cells] at hcl hg
  obtain ⟨c0, c1, c2, c3, hcs⟩ : ∃ c0 c1 c2 c3, cs.toList = [c0, c1, c2, c3] := by
    match cs.toList, hcl with
    | [c0, c1, c2, c3], _ => exact ⟨c0, c1, c2, c3, rfl⟩
  rw [hcs] at hg
  obtain ⟨a, rfl⟩ := cut_int (i := 0) l0 i0 rfl hxl rfl hg
  obtain ⟨b, rfl⟩ := cut_int (i := 1) l1 i1 rfl hxl rfl hg
  obtain ⟨c, rfl⟩ := cut_int (i := 2) l2 i2 rfl hxl rfl hg
  obtain ⟨x, rfl⟩ := cut_int (i := 3) l3 i3 rfl hxl rfl hg
  refine ⟨a, b, c, x, ?_⟩
  rw [← Array.toArray_toList (xs := cs), hcs]

/-- The cells of an incident. -/
theorem open_incc {fuel : Nat} {t : TypeId} {f0 f1 f2 f3 f4 : Field} {cs : List Value} {x : DataW H × List MemPlace} (hs : P.underlying t = some (.struct #[f0, f1, f2, f3, f4])) (hC : P.cellsOf t = 5)
    (l0 : Lay P f0 0 1) (l1 : Lay P f1 1 1) (l2 : Lay P f2 2 1) (l3 : Lay P f3 3 1) (l4 : Lay P f4 4 1)
    (i0 : P.underlying f0.type = some (.int .i64)) (i1 : P.underlying f1.type = some (.int .i64)) (i2 : P.underlying f2.type = some (.int .i64)) (i3 : P.underlying f3.type = some (.int .i64)) (i4 : P.underlying f4.type = some (.int .i64))
    (h : DataW.trod enc P w base spare held fuel t cs = some x) : ∃ q : I5, cs = q.cells := by
  obtain ⟨xs, n, _, _, hcl, hxl, hg⟩ := DataW.trod_struct hs h
  rw [hC] at hcl
  obtain ⟨c0, c1, c2, c3, c4, rfl⟩ : ∃ c0 c1 c2 c3 c4, cs = [c0, c1, c2, c3, c4] := by
    match cs, hcl with
    | [c0, c1, c2, c3, c4], _ => exact ⟨c0, c1, c2, c3, c4, rfl⟩
  obtain ⟨a, rfl⟩ := cut_int (i := 0) l0 i0 rfl hxl rfl hg
  obtain ⟨b, rfl⟩ := cut_int (i := 1) l1 i1 rfl hxl rfl hg
  obtain ⟨c, rfl⟩ := cut_int (i := 2) l2 i2 rfl hxl rfl hg
  obtain ⟨d, rfl⟩ := cut_int (i := 3) l3 i3 rfl hxl rfl hg
  obtain ⟨e, rfl⟩ := cut_int (i := 4) l4 i4 rfl hxl rfl hg
  exact ⟨⟨a, b, c, d, e⟩, rfl⟩

theorem open_inc {r : Reach} {b0 : Nat} {t : TypeId} {f0 f1 f2 f3 f4 : Field} {v : Value} {d : DataW H} {p : List MemPlace} (hs : P.underlying t = some (.struct #[f0, f1, f2, f3, f4])) (hC : P.cellsOf t = 5)
    (l0 : Lay P f0 0 1) (l1 : Lay P f1 1 1) (l2 : Lay P f2 2 1) (l3 : Lay P f3 3 1) (l4 : Lay P f4 4 1)
    (i0 : P.underlying f0.type = some (.int .i64)) (i1 : P.underlying f1.type = some (.int .i64)) (i2 : P.underlying f2.type = some (.int .i64)) (i3 : P.underlying f3.type = some (.int .i64)) (i4 : P.underlying f4.type = some (.int .i64))
    (hv : Value.okWide P w r b0 t v) (h : DataW.Trod enc P w base spare held t v d p) :
    ∃ a b c x y : Int, v = .agg #[.int .i64 a, .int .i64 b, .int .i64 c, .int .i64 x, .int .i64 y] := by
  obtain ⟨cs, rfl, hsz⟩ := okWide_struct hs hv
  obtain ⟨fuel, hf⟩ := h
  have hf2 : DataW.trod enc P w base spare held fuel t cs.toList = some (d, p) := hf
  obtain ⟨q, hq⟩ := open_incc hs hC l0 l1 l2 l3 l4 i0 i1 i2 i3 i4 hf2
  refine ⟨q.t, q.f, q.s, q.k, q.r, ?_⟩
  rw [← Array.toArray_toList (xs := cs), hq]; rfl

theorem open_incs {r : Reach} {bb : Nat} {t e : TypeId} {f0 f1 f2 f3 f4 : Field} {v : Value} {d : DataW H} {p : List MemPlace}
    (hsl : P.underlying t = some (.slice e)) (hs : P.underlying e = some (.struct #[f0, f1, f2, f3, f4])) (hC : P.cellsOf e = 5)
    (l0 : Lay P f0 0 1) (l1 : Lay P f1 1 1) (l2 : Lay P f2 2 1) (l3 : Lay P f3 3 1) (l4 : Lay P f4 4 1)
    (i0 : P.underlying f0.type = some (.int .i64)) (i1 : P.underlying f1.type = some (.int .i64)) (i2 : P.underlying f2.type = some (.int .i64)) (i3 : P.underlying f3.type = some (.int .i64)) (i4 : P.underlying f4.type = some (.int .i64))
    (hv0 : Value.okWide P w r bb t v) (h0' : DataW.Trod enc P w base spare held t v d p) : ∃ (a : Option Addr) (cap : Nat) (xs : List I5), v = .slice a xs.length cap ∧ Ivs w a xs := by
  obtain ⟨fuel, h1'⟩ := h0'
  obtain ⟨a1, len1, cap1, rfl⟩ := okWide_slice hsl hv0
  have h : DataW.trod enc P w base spare held fuel t [.slice a1 len1 cap1] = some (d, p) := h1'
  rcases open_slice hsl h with ⟨hv, _⟩ | ⟨a, len, cap, m, n, D, Pl, hcs, _, hl, hm, hmm, _, hi⟩
  · simp at hv; exact ⟨none, 0, [], by simp [hv], by simp [Ivs]⟩
  · simp at hcs
    have hlm : len ≤ m := by rw [hmm]; split <;> omega
    rw [hC] at hi
    rcases Nat.eq_zero_or_pos len with h0 | hpos
    · subst h0; exact ⟨some a, cap, [], by simpa using hcs, by simp [Ivs]⟩
    · have each : ∀ i, i < len → ∃ f : I5, ∀ j u, f.cells[j]? = some u → w.cell? (a.add (i * 5 + j)) = some u := by
        intro i hil
        obtain ⟨cs, hc, hd⟩ := hi i (by omega)
        obtain ⟨_, hcl, hat⟩ := World.cells?_some hc
        obtain ⟨q, rfl⟩ := open_incc hs hC l0 l1 l2 l3 l4 i0 i1 i2 i3 i4 hd
        refine ⟨q, fun j u hj => ?_⟩
        have hjl := (List.getElem?_eq_some_iff.1 hj).1
        have := hat j (by simpa [I5.cells] using hjl)
        rw [hj] at this
        simpa [add_add] using this
      obtain ⟨b, off, spot⟩ := a
      obtain ⟨f, hf⟩ := each 0 hpos
      have hspot : spot = none := by simpa [Addr.add] using World.cell?_spot (hf 0 _ rfl)
      subst hspot
      obtain ⟨fs, hfl, hfs⟩ := gather5 (w := w) (b := b) (off := off) len (fun i hil => by
        obtain ⟨f, hf⟩ := each i hil
        exact ⟨f, fun j u hj => by have := hf j u hj; rw [add_plain] at this; rw [Nat.add_assoc]; exact this⟩)
      subst hfl
      exact ⟨_, cap, fs, by simpa using hcs, by omega, .inr ⟨b, off, rfl, hfs⟩⟩

end
end Go.Proofs.YtknelhceaoblhaaDoor.OpnI
