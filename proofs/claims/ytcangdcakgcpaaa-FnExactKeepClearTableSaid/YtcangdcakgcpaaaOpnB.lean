/- Reading boats that came in: a hull (two structs of two numbers each and a number) and a bool; rows of them. Of no program. -/
import Derived.Test.YtcangdcakgcpaaaBts
import Derived.Test.YtcangdcakgcpaaaOpn5
import Derived.Deep.Slices
import Derived.Deep.Fields
import Derived.ChangeSame
namespace Go.Proofs.Ytcangdcakgcpaaa.OpnB
open Go.ChangeShapes Go.WideShapes Go.ChangeAt Go.RowKit Go.Deep
open Go.Proofs.Ytcangdcakgcpaaa.Opn5 Go.Proofs.Ytcangdcakgcpaaa.Bts
set_option linter.unusedVariables false
set_option linter.unusedSimpArgs false

section
variable {H : Type} {enc : TypeId × Value → H} {P : Program} {w : World} {base : Nat} {spare : Nat → Bool} {held : Bool}

theorem cut_bool {f : Field} {fs : Array Field} {cs : List Value} {xs : List (DataW H × List MemPlace)} {n i o : Nat} {c : Value}
    (hl : Lay P f o 1) (ht : P.underlying f.type = some .bool) (hi : fs[i]? = some f) (hx : xs.length = fs.size) (hc : cs[o]? = some c)
    (hg : ∀ (i : Nat) (f : Field), fs[i]? = some f → DataW.trod enc P w base spare held n f.type ((cs.drop f.offset).take (P.cellsOf f.type)) = xs[i]?) : ∃ z : Bool, c = .bool z := by
  have r := hg i f hi
  have hlt : i < xs.length := by rw [hx]; exact (Array.getElem?_eq_some_iff.1 hi).1
  rw [hl.1, hl.2, List.getElem?_eq_getElem hlt] at r
  have e : (cs.drop o).take 1 = [c] := by
    obtain ⟨h1, h2⟩ := List.getElem?_eq_some_iff.1 hc
    rw [List.drop_eq_getElem_cons h1, h2]; rfl
  rw [e] at r
  obtain ⟨z, hz, _⟩ := DataW.trod_bool ht r
  simp at hz
  exact ⟨z, hz⟩

/-- The cells of a hull. -/
theorem open_hullc {fuel : Nat} {t : TypeId} {f0 f1 f2 g0 g1 : Field} {cs : List Value} {x : DataW H × List MemPlace} (hs : P.underlying t = some (.struct #[f0, f1, f2])) (hC : P.cellsOf t = 5)
    (l0 : Lay P f0 0 2) (l1 : Lay P f1 2 2) (l2 : Lay P f2 4 1) (hp : P.underlying f0.type = some (.struct #[g0, g1])) (hq : P.underlying f1.type = some (.struct #[g0, g1]))
    (k0 : Lay P g0 0 1) (k1 : Lay P g1 1 1) (i2 : P.underlying f2.type = some (.int .i64)) (j0 : P.underlying g0.type = some (.int .i64)) (j1 : P.underlying g1.type = some (.int .i64))
    (h : DataW.trod enc P w base spare held fuel t cs = some x) : ∃ a b c d n : Int, cs = [.int .i64 a, .int .i64 b, .int .i64 c, .int .i64 d, .int .i64 n] := by
  obtain ⟨xs, n, _, _, hcl, hxl, hg⟩ := DataW.trod_struct hs h
  rw [hC] at hcl
  obtain ⟨c0, c1, c2, c3, c4, rfl⟩ : ∃ c0 c1 c2 c3 c4, cs = [c0, c1, c2, c3, c4] := by
    match cs, hcl with
    | [c0, c1, c2, c3, c4], _ => exact ⟨c0, c1, c2, c3, c4, rfl⟩
  obtain ⟨z, rfl⟩ := cut_int (i := 2) l2 i2 rfl hxl rfl hg
  have r0 := hg 0 f0 rfl
  have r1 := hg 1 f1 rfl
  simp at hxl
  rw [l0.1, l0.2, List.getElem?_eq_getElem (by omega)] at r0
  rw [l1.1, l1.2, List.getElem?_eq_getElem (by omega)] at r1
  obtain ⟨a, b, e0⟩ := open_pt hp l0.2 k0 k1 j0 j1 r0
  obtain ⟨x, y, e1⟩ := open_pt hq l1.2 k0 k1 j0 j1 r1
  simp at e0 e1
  obtain ⟨rfl, rfl⟩ := e0
  obtain ⟨rfl, rfl⟩ := e1
  exact ⟨a, b, x, y, z, rfl⟩

/-- The cells of a boat. -/
theorem open_boatc {fuel : Nat} {t : TypeId} {h0 h1 f0 f1 f2 g0 g1 : Field} {cs : List Value} {x : DataW H × List MemPlace} (ht : P.underlying t = some (.struct #[h0, h1])) (hCt : P.cellsOf t = 6)
    (m0 : Lay P h0 0 5) (m1 : Lay P h1 5 1) (hb : P.underlying h1.type = some .bool) (hs : P.underlying h0.type = some (.struct #[f0, f1, f2]))
    (l0 : Lay P f0 0 2) (l1 : Lay P f1 2 2) (l2 : Lay P f2 4 1) (hp : P.underlying f0.type = some (.struct #[g0, g1])) (hq : P.underlying f1.type = some (.struct #[g0, g1]))
    (k0 : Lay P g0 0 1) (k1 : Lay P g1 1 1) (i2 : P.underlying f2.type = some (.int .i64)) (j0 : P.underlying g0.type = some (.int .i64)) (j1 : P.underlying g1.type = some (.int .i64))
    (h : DataW.trod enc P w base spare held fuel t cs = some x) : ∃ p : B6, cs = p.cells := by
  obtain ⟨xs, n, _, _, hcl, hxl, hg⟩ := DataW.trod_struct ht h
  rw [hCt] at hcl
  obtain ⟨c0, c1, c2, c3, c4, c5, rfl⟩ : ∃ c0 c1 c2 c3 c4 c5, cs = [c0, c1, c2, c3, c4, c5] := by
    match cs, hcl with
    | [c0, c1, c2, c3, c4, c5], _ => exact ⟨c0, c1, c2, c3, c4, c5, rfl⟩
  obtain ⟨z, rfl⟩ := cut_bool (i := 1) m1 hb rfl hxl rfl hg
  have r0 := hg 0 h0 rfl
  simp at hxl
  rw [m0.1, m0.2, List.getElem?_eq_getElem (by omega)] at r0
  obtain ⟨a, b, c, d, e, e0⟩ := open_hullc hs m0.2 l0 l1 l2 hp hq k0 k1 i2 j0 j1 r0
  simp at e0
  obtain ⟨rfl, rfl, rfl, rfl, rfl⟩ := e0
  exact ⟨⟨a, b, c, d, e, z⟩, rfl⟩

theorem open_boat {r : Reach} {b0 : Nat} {t : TypeId} {h0 h1 f0 f1 f2 g0 g1 : Field} {v : Value} {d : DataW H} {p : List MemPlace} (ht : P.underlying t = some (.struct #[h0, h1])) (hCt : P.cellsOf t = 6)
    (m0 : Lay P h0 0 5) (m1 : Lay P h1 5 1) (hb : P.underlying h1.type = some .bool) (hs : P.underlying h0.type = some (.struct #[f0, f1, f2]))
    (l0 : Lay P f0 0 2) (l1 : Lay P f1 2 2) (l2 : Lay P f2 4 1) (hp : P.underlying f0.type = some (.struct #[g0, g1])) (hq : P.underlying f1.type = some (.struct #[g0, g1]))
    (k0 : Lay P g0 0 1) (k1 : Lay P g1 1 1) (i2 : P.underlying f2.type = some (.int .i64)) (j0 : P.underlying g0.type = some (.int .i64)) (j1 : P.underlying g1.type = some (.int .i64))
    (hv : Value.okWide P w r b0 t v) (h : DataW.Trod enc P w base spare held t v d p) :
    ∃ (a b c x y : Int) (z : Bool), v = .agg #[.int .i64 a, .int .i64 b, .int .i64 c, .int .i64 x, .int .i64 y, .bool z] := by
  obtain ⟨cs, rfl, hsz⟩ := okWide_struct ht hv
  obtain ⟨fuel, hf⟩ := h
  have hf2 : DataW.trod enc P w base spare held fuel t cs.toList = some (d, p) := hf
  obtain ⟨q, hq⟩ := open_boatc ht hCt m0 m1 hb hs l0 l1 l2 hp hq k0 k1 i2 j0 j1 hf2
  refine ⟨q.a, q.b, q.c, q.d, q.n, q.s, ?_⟩
  rw [← Array.toArray_toList (xs := cs), hq]; rfl

theorem open_boats {r : Reach} {bb : Nat} {t e : TypeId} {h0 h1 f0 f1 f2 g0 g1 : Field} {v : Value} {d : DataW H} {p : List MemPlace}
    (hsl : P.underlying t = some (.slice e)) (ht : P.underlying e = some (.struct #[h0, h1])) (hCt : P.cellsOf e = 6)
    (m0 : Lay P h0 0 5) (m1 : Lay P h1 5 1) (hb : P.underlying h1.type = some .bool) (hs : P.underlying h0.type = some (.struct #[f0, f1, f2]))
    (l0 : Lay P f0 0 2) (l1 : Lay P f1 2 2) (l2 : Lay P f2 4 1) (hp : P.underlying f0.type = some (.struct #[g0, g1])) (hq : P.underlying f1.type = some (.struct #[g0, g1]))
    (k0 : Lay P g0 0 1) (k1 : Lay P g1 1 1) (i2 : P.underlying f2.type = some (.int .i64)) (j0 : P.underlying g0.type = some (.int .i64)) (j1 : P.underlying g1.type = some (.int .i64))
    (hv0 : Value.okWide P w r bb t v) (h0' : DataW.Trod enc P w base spare held t v d p) : ∃ (a : Option Addr) (cap : Nat) (bs : List B6), v = .slice a bs.length cap ∧ Bts w a bs := by
  obtain ⟨fuel, h1'⟩ := h0'
  obtain ⟨a1, len1, cap1, rfl⟩ := okWide_slice hsl hv0
  have h : DataW.trod enc P w base spare held fuel t [.slice a1 len1 cap1] = some (d, p) := h1'
  rcases open_slice hsl h with ⟨hv, _⟩ | ⟨a, len, cap, m, n, D, Pl, hcs, _, hl, hm, hmm, _, hi⟩
  · simp at hv; exact ⟨none, 0, [], by simp [hv], by simp [Bts]⟩
  · simp at hcs
    have hlm : len ≤ m := by rw [hmm]; split <;> omega
    rw [hCt] at hi
    rcases Nat.eq_zero_or_pos len with h0 | hpos
    · subst h0; exact ⟨some a, cap, [], by simpa using hcs, by simp [Bts]⟩
    · have each : ∀ i, i < len → ∃ f : B6, ∀ j u, f.cells[j]? = some u → w.cell? (a.add (i * 6 + j)) = some u := by
        intro i hil
        obtain ⟨cs, hc, hd⟩ := hi i (by omega)
        obtain ⟨_, hcl, hat⟩ := World.cells?_some hc
        obtain ⟨q, rfl⟩ := open_boatc ht hCt m0 m1 hb hs l0 l1 l2 hp hq k0 k1 i2 j0 j1 hd
        refine ⟨q, fun j u hj => ?_⟩
        have hjl := (List.getElem?_eq_some_iff.1 hj).1
        have := hat j (by simpa [B6.cells] using hjl)
        rw [hj] at this
        simpa [add_add] using this
      obtain ⟨b, off, spot⟩ := a
      obtain ⟨f, hf⟩ := each 0 hpos
      have hspot : spot = none := by simpa [Addr.add] using World.cell?_spot (hf 0 _ rfl)
      subst hspot
      obtain ⟨fs, hfl, hfs⟩ := gather6 (w := w) (b := b) (off := off) len (fun i hil => by
        obtain ⟨f, hf⟩ := each i hil
        exact ⟨f, fun j u hj => by have := hf j u hj; rw [add_plain] at this; rw [Nat.add_assoc]; exact this⟩)
      subst hfl
      exact ⟨_, cap, fs, by simpa using hcs, by omega, .inr ⟨b, off, rfl, hfs⟩⟩

end
end Go.Proofs.Ytcangdcakgcpaaa.OpnB
