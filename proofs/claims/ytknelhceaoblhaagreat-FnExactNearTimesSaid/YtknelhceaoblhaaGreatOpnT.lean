import Derived.Test.YtknelhceaoblhaaGreatMPts
import Derived.Lib.SmallJoins
import Derived.OpenShut
import Derived.Deep.Slices
import Derived.Deep.Fields
import Derived.ChangeSame
namespace Go.Proofs.YtknelhceaoblhaaGreat.Trk
open Go.ChangeShapes Go.WideShapes Go.ChangeAt Go.RowKit Go.Deep
open Go.Proofs.YtknelhceaoblhaaGreat.Kit
theorem fx_snoc (fs : List F3) (f : F3) (i : Nat) : fx (fs ++ [f]) i = if i < fs.length then fx fs i else if i = fs.length then f else ⟨0, 0, 0⟩ := by
  unfold fx
  rw [List.getD_eq_getElem?_getD, List.getD_eq_getElem?_getD, List.getElem?_append]
  by_cases h : i < fs.length
  · rw [if_pos h, if_pos h]
  · rw [if_neg h, if_neg h]
    by_cases h2 : i = fs.length
    · subst h2; simp
    · rw [if_neg h2, List.getElem?_eq_none (by simp; omega)]; rfl
theorem gather {w : World} {b off : Nat} : ∀ n : Nat, (∀ i, i < n → ∃ f : F3, At w b (off + i * 3) f) → ∃ fs : List F3, fs.length = n ∧ ∀ i, i < n → At w b (off + i * 3) (fx fs i)
  | 0, _ => ⟨[], rfl, fun i hi => absurd hi (by omega)⟩
  | n + 1, h => by
    obtain ⟨fs, hl, hf⟩ := gather n (fun i hi => h i (by omega))
    obtain ⟨f, g⟩ := h n (by omega)
    refine ⟨fs ++ [f], by simp [hl], fun i hi => ?_⟩
    rw [fx_snoc]
    by_cases h1 : i < fs.length
    · rw [if_pos h1]; exact hf i (by omega)
    · obtain rfl : i = n := by omega
      rw [if_neg h1, if_pos hl.symm]; exact g
theorem open_fixes {H : Type} {enc : TypeId × Value → H} {P : Program} {w : World} {base : Nat} {spare : Nat → Bool} {held : Bool} {fuel : Nat} {t e : TypeId} {g0 g1 g2 : Field} {v : Value} {x : DataW H × List MemPlace}
    (ht : P.underlying t = some (.slice e)) (he : P.underlying e = some (.struct #[g0, g1, g2])) (hC : P.cellsOf e = 3) (hone : oneCellFields P #[g0, g1, g2] = true)
    (i0 : P.underlying g0.type = some (.int .i64)) (i1 : P.underlying g1.type = some (.int .i64)) (i2 : P.underlying g2.type = some (.int .i64))
    (h : DataW.trod enc P w base spare held fuel t [v] = some x) : ∃ (a : Option Addr) (cap : Nat) (fs : List F3), v = .slice a fs.length cap ∧ Fxs w a fs := by
  rcases open_slice ht h with ⟨hv, _⟩ | ⟨a, len, cap, m, n, D, Pl, hcs, _, hl, hm, hmm, _, hi⟩
  · simp at hv; exact ⟨none, 0, [], hv, by simp [Fxs]⟩
  · simp at hcs
    have hlm : len ≤ m := by rw [hmm]; split <;> omega
    rw [hC] at hi
    rcases Nat.eq_zero_or_pos len with h0 | hp
    · subst h0; exact ⟨some a, cap, [], hcs, by simp [Fxs]⟩
    · have each : ∀ i, i < len → ∃ f : F3, w.cell? (a.add (i * 3)) = some (.int .i64 f.t) ∧ w.cell? (a.add (i * 3 + 1)) = some (.int .i64 f.x) ∧ w.cell? (a.add (i * 3 + 2)) = some (.int .i64 f.y) := by
        intro i hil
        obtain ⟨cs, hc, hd⟩ := hi i (by omega)
        obtain ⟨_, hcl, hat⟩ := World.cells?_some hc
        obtain ⟨ys, n', _, _, _, hyl, hg⟩ := DataW.trod_struct he hd
        obtain ⟨l0, l1, l2, rfl⟩ : ∃ l0 l1 l2, cs = [l0, l1, l2] := by
          match cs, hcl with
          | [l0, l1, l2], _ => exact ⟨l0, l1, l2, rfl⟩
        obtain ⟨a0, b0⟩ := hone_of hone 0 g0 rfl
        obtain ⟨a1, b1⟩ := hone_of hone 1 g1 rfl
        obtain ⟨a2, b2⟩ := hone_of hone 2 g2 rfl
        have r0 := hg 0 g0 rfl
        have r1 := hg 1 g1 rfl
        have r2 := hg 2 g2 rfl
        have hx : ∀ j, j < 3 → ∃ y, ys[j]? = some y := fun j hj => ⟨_, List.getElem?_eq_getElem (by simp at hyl; omega)⟩
        obtain ⟨y0, e0⟩ := hx 0 (by omega)
        obtain ⟨y1, e1⟩ := hx 1 (by omega)
        obtain ⟨y2, e2⟩ := hx 2 (by omega)
        rw [e0] at r0
        rw [e1] at r1
        rw [e2] at r2
        simp [a0, b0] at r0
        simp [a1, b1] at r1
        simp [a2, b2] at r2
        obtain ⟨z0, q0, _, _⟩ := DataW.trod_int i0 r0
        obtain ⟨z1, q1, _, _⟩ := DataW.trod_int i1 r1
        obtain ⟨z2, q2, _, _⟩ := DataW.trod_int i2 r2
        simp at q0 q1 q2
        subst q0 q1 q2
        refine ⟨⟨z0, z1, z2⟩, ?_, ?_, ?_⟩
        · have := hat 0 (by omega); simpa [add_add] using this
        · have := hat 1 (by omega); simpa [add_add] using this
        · have := hat 2 (by omega); simpa [add_add] using this
      obtain ⟨b, off, spot⟩ := a
      obtain ⟨f, hf, _⟩ := each 0 hp
      have hspot : spot = none := by simpa [Addr.add] using World.cell?_spot hf
      subst hspot
      obtain ⟨fs, hfl, hfs⟩ := gather (w := w) (b := b) (off := off) len (fun i hil => by
        obtain ⟨f, g0, g1, g2⟩ := each i hil
        rw [add_plain] at g0 g1 g2
        exact ⟨f, g0, by rw [Nat.add_assoc]; exact g1, by rw [Nat.add_assoc]; exact g2⟩)
      subst hfl
      exact ⟨_, cap, fs, hcs, by omega, .inr ⟨b, off, rfl, hfs⟩⟩
theorem open_track {H : Type} {enc : TypeId × Value → H} {P : Program} {w : World} {base : Nat} {spare : Nat → Bool} {held : Bool} {r : Reach} {bb : Nat} {t e : TypeId} {f g0 g1 g2 : Field} {v : Value} {d : DataW H} {p : List MemPlace}
    (hs : P.underlying t = some (.struct #[f])) (hT : P.cellsOf t = 1) (hone1 : oneCellFields P #[f] = true)
    (ht : P.underlying f.type = some (.slice e)) (he : P.underlying e = some (.struct #[g0, g1, g2])) (hC : P.cellsOf e = 3) (hone : oneCellFields P #[g0, g1, g2] = true)
    (i0 : P.underlying g0.type = some (.int .i64)) (i1 : P.underlying g1.type = some (.int .i64)) (i2 : P.underlying g2.type = some (.int .i64))
    (hv : Value.okWide P w r bb t v) (h : DataW.Trod enc P w base spare held t v d p) : ∃ (a : Option Addr) (cap : Nat) (fs : List F3), v = Tr (.slice a fs.length cap) ∧ Fxs w a fs := by
  obtain ⟨cs, rfl, hsz⟩ := okWide_struct hs hv
  rw [hT] at hsz
  obtain ⟨c, rfl⟩ : ∃ c, cs = #[c] := by
    obtain ⟨l⟩ := cs
    match l, hsz with
    | [c], _ => exact ⟨c, rfl⟩
  obtain ⟨fuel, hf⟩ := h
  obtain ⟨xs, n, _, _, _, hlen, hg⟩ := DataW.trod_struct hs hf
  obtain ⟨a0, b0⟩ := hone_of hone1 0 f rfl
  have r0 := hg 0 f rfl
  simp [Value.cells, a0, b0] at r0
  obtain ⟨y, hy⟩ : ∃ y, xs[0]? = some y := ⟨_, List.getElem?_eq_getElem (by rw [hlen]; simp)⟩
  rw [hy] at r0
  obtain ⟨a, cap, fs, rfl, hF⟩ := open_fixes ht he hC hone i0 i1 i2 r0
  exact ⟨a, cap, fs, rfl, hF⟩
end Go.Proofs.YtknelhceaoblhaaGreat.Trk
