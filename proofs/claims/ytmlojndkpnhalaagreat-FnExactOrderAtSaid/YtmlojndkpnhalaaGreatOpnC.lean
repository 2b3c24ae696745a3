import Derived.Test.YtmlojndkpnhalaaGreatMMks
import Derived.Test.YtmlojndkpnhalaaGreatOpn
import Derived.ChangeArms
namespace Go.Proofs.YtmlojndkpnhalaaGreat.Crs
open Go.ChangeShapes Go.WideShapes Go.ChangeAt Go.RowKit Go.Deep
open Go.Proofs.YtmlojndkpnhalaaGreat.Kit
set_option linter.unusedVariables false
section
variable {H : Type} {enc : TypeId × Value → H} {P : Program} {w : World} {base : Nat} {spare : Nat → Bool} {held : Bool}
def Lay (P : Program) (f : Field) (o n : Nat) : Prop := f.offset = o ∧ P.cellsOf f.type = n
theorem cut_int {fuel : Nat} {t : TypeId} {f : Field} {fs : Array Field} {cs : List Value} {xs : List (DataW H × List MemPlace)} {n i o : Nat} {c : Value}
    (hl : Lay P f o 1) (ht : P.underlying f.type = some (.int .i64)) (hi : fs[i]? = some f) (hx : xs.length = fs.size) (hc : cs[o]? = some c)
    (hg : ∀ (i : Nat) (f : Field), fs[i]? = some f → DataW.trod enc P w base spare held n f.type ((cs.drop f.offset).take (P.cellsOf f.type)) = xs[i]?) : ∃ z : Int, c = .int .i64 z := by
  have r := hg i f hi
  have hlt : i < xs.length := by rw [hx]; exact (Array.getElem?_eq_some_iff.1 hi).1
  rw [hl.1, hl.2, List.getElem?_eq_getElem hlt] at r
  have e : (cs.drop o).take 1 = [c] := by
    obtain ⟨h1, h2⟩ := List.getElem?_eq_some_iff.1 hc
    rw [List.drop_eq_getElem_cons h1, h2]; rfl
  rw [e] at r
  obtain ⟨z, hz, _⟩ := DataW.trod_int ht r
  simp at hz
  exact ⟨z, hz⟩
theorem open_pt {fuel : Nat} {t : TypeId} {g0 g1 : Field} {cs : List Value} {x : DataW H × List MemPlace} (hs : P.underlying t = some (.struct #[g0, g1])) (hC : P.cellsOf t = 2)
    (l0 : Lay P g0 0 1) (l1 : Lay P g1 1 1) (i0 : P.underlying g0.type = some (.int .i64)) (i1 : P.underlying g1.type = some (.int .i64))
    (h : DataW.trod enc P w base spare held fuel t cs = some x) : ∃ a b : Int, cs = [.int .i64 a, .int .i64 b] := by
  obtain ⟨xs, n, _, _, hcl, hxl, hg⟩ := DataW.trod_struct hs h
  rw [hC] at hcl
  obtain ⟨c0, c1, rfl⟩ : ∃ c0 c1, cs = [c0, c1] := by
    match cs, hcl with
    | [c0, c1], _ => exact ⟨c0, c1, rfl⟩
  obtain ⟨a, rfl⟩ := cut_int (fuel := fuel) (t := t) (i := 0) l0 i0 rfl hxl rfl hg
  obtain ⟨b, rfl⟩ := cut_int (fuel := fuel) (t := t) (i := 1) l1 i1 rfl hxl rfl hg
  exact ⟨a, b, rfl⟩
theorem open_line {fuel : Nat} {t : TypeId} {f0 f1 g0 g1 : Field} {cs : List Value} {x : DataW H × List MemPlace} (hs : P.underlying t = some (.struct #[f0, f1])) (hC : P.cellsOf t = 4)
    (l0 : Lay P f0 0 2) (l1 : Lay P f1 2 2) (hp : P.underlying f0.type = some (.struct #[g0, g1])) (hp1 : P.underlying f1.type = some (.struct #[g0, g1])) 
    (k0 : Lay P g0 0 1) (k1 : Lay P g1 1 1) (i0 : P.underlying g0.type = some (.int .i64)) (i1 : P.underlying g1.type = some (.int .i64))
    (h : DataW.trod enc P w base spare held fuel t cs = some x) : ∃ l : L4, cs = [.int .i64 l.a, .int .i64 l.b, .int .i64 l.c, .int .i64 l.d] := by
  obtain ⟨xs, n, _, _, hcl, hxl, hg⟩ := DataW.trod_struct hs h
  rw [hC] at hcl
  obtain ⟨c0, c1, c2, c3, rfl⟩ : ∃ c0 c1 c2 c3, cs = [c0, c1, c2, c3] := by
    match cs, hcl with
    | [c0, c1, c2, c3], _ => exact ⟨c0, c1, c2, c3, rfl⟩
  have r0 := hg 0 f0 rfl
  have r1 := hg 1 f1 rfl
  simp at hxl
  rw [l0.1, l0.2, List.getElem?_eq_getElem (by omega)] at r0
  rw [l1.1, l1.2, List.getElem?_eq_getElem (by omega)] at r1
  obtain ⟨a, b, e0⟩ := open_pt hp l0.2 k0 k1 i0 i1 r0
  obtain ⟨c, d, e1⟩ := open_pt hp1 l1.2 k0 k1 i0 i1 r1
  simp at e0 e1
  obtain ⟨rfl, rfl⟩ := e0
  obtain ⟨rfl, rfl⟩ := e1
  exact ⟨⟨a, b, c, d⟩, rfl⟩
theorem open_mark {fuel : Nat} {t : TypeId} {f0 f1 f2 f3 g0 g1 : Field} {cs : List Value} {x : DataW H × List MemPlace} (hs : P.underlying t = some (.struct #[f0, f1, f2, f3])) (hC : P.cellsOf t = 5)
    (l0 : Lay P f0 0 1) (l1 : Lay P f1 1 2) (l2 : Lay P f2 3 1) (l3 : Lay P f3 4 1) (hn : P.underlying f0.type = some .string) (hp : P.underlying f1.type = some (.struct #[g0, g1]))
    (k0 : Lay P g0 0 1) (k1 : Lay P g1 1 1) (i0 : P.underlying g0.type = some (.int .i64)) (i1 : P.underlying g1.type = some (.int .i64)) (i2 : P.underlying f2.type = some (.int .i64)) (i3 : P.underlying f3.type = some (.int .i64))
    (h : DataW.trod enc P w base spare held fuel t cs = some x) : ∃ m : M5, cs = [.string m.n, .int .i64 m.x, .int .i64 m.y, .int .i64 m.s, .int .i64 m.z] ∧ m.n.size ≤ maxLen := by
  obtain ⟨xs, n, _, _, hcl, hxl, hg⟩ := DataW.trod_struct hs h
  rw [hC] at hcl
  obtain ⟨c0, c1, c2, c3, c4, rfl⟩ : ∃ c0 c1 c2 c3 c4, cs = [c0, c1, c2, c3, c4] := by
    match cs, hcl with
    | [c0, c1, c2, c3, c4], _ => exact ⟨c0, c1, c2, c3, c4, rfl⟩
  obtain ⟨s, rfl⟩ := cut_int (fuel := fuel) (t := t) (i := 2) l2 i2 rfl hxl rfl hg
  obtain ⟨z, rfl⟩ := cut_int (fuel := fuel) (t := t) (i := 3) l3 i3 rfl hxl rfl hg
  have r0 := hg 0 f0 rfl
  have r1 := hg 1 f1 rfl
  simp at hxl
  rw [l0.1, l0.2, List.getElem?_eq_getElem (by omega)] at r0
  rw [l1.1, l1.2, List.getElem?_eq_getElem (by omega)] at r1
  obtain ⟨a, b, e1⟩ := open_pt hp l1.2 k0 k1 i0 i1 r1
  obtain ⟨nm, e0, _, hsz⟩ := DataW.trod_string hn r0
  simp at e0 e1
  subst e0
  obtain ⟨rfl, rfl⟩ := e1
  exact ⟨⟨nm, a, b, s, z⟩, rfl, hsz⟩
theorem mk_snoc (ms : List M5) (m : M5) (i : Nat) : mk (ms ++ [m]) i = if i < ms.length then mk ms i else if i = ms.length then m else ⟨⟨#[]⟩, 0, 0, 0, 0⟩ := by
  unfold mk
  rw [List.getD_eq_getElem?_getD, List.getD_eq_getElem?_getD, List.getElem?_append]
  by_cases h : i < ms.length
  · rw [if_pos h, if_pos h]
  · rw [if_neg h, if_neg h]
    by_cases h2 : i = ms.length
    · subst h2; simp
    · rw [if_neg h2, List.getElem?_eq_none (by simp; omega)]; rfl
theorem gather {b off : Nat} : ∀ n : Nat, (∀ i, i < n → ∃ m : M5, At w b (off + i * 5) m ∧ m.n.size ≤ maxLen) → ∃ ms : List M5, ms.length = n ∧ Fit ms ∧ ∀ i, i < n → At w b (off + i * 5) (mk ms i)
  | 0, _ => ⟨[], rfl, fun i hi => absurd hi (by simp), fun i hi => absurd hi (by omega)⟩
  | n + 1, h => by
    obtain ⟨ms, hl, hF, hf⟩ := gather n (fun i hi => h i (by omega))
    obtain ⟨m, g, gs⟩ := h n (by omega)
    refine ⟨ms ++ [m], by simp [hl], fun i hi => ?_, fun i hi => ?_⟩
    · rw [mk_snoc]
      by_cases h1 : i < ms.length
      · rw [if_pos h1]; exact hF i h1
      · obtain rfl : i = ms.length := by simp at hi; omega
        rw [if_neg h1, if_pos rfl]; exact gs
    · rw [mk_snoc]
      by_cases h1 : i < ms.length
      · rw [if_pos h1]; exact hf i (by omega)
      · obtain rfl : i = n := by omega
        rw [if_neg h1, if_pos hl.symm]; exact g
theorem open_marks {fuel : Nat} {t e : TypeId} {f0 f1 f2 f3 g0 g1 : Field} {v : Value} {x : DataW H × List MemPlace} (ht : P.underlying t = some (.slice e)) (hs : P.underlying e = some (.struct #[f0, f1, f2, f3])) (hC : P.cellsOf e = 5)
    (l0 : Lay P f0 0 1) (l1 : Lay P f1 1 2) (l2 : Lay P f2 3 1) (l3 : Lay P f3 4 1) (hn : P.underlying f0.type = some .string) (hp : P.underlying f1.type = some (.struct #[g0, g1]))
    (k0 : Lay P g0 0 1) (k1 : Lay P g1 1 1) (i0 : P.underlying g0.type = some (.int .i64)) (i1 : P.underlying g1.type = some (.int .i64)) (i2 : P.underlying f2.type = some (.int .i64)) (i3 : P.underlying f3.type = some (.int .i64))
    (h : DataW.trod enc P w base spare held fuel t [v] = some x) : ∃ (a : Option Addr) (cap : Nat) (ms : List M5), v = .slice a ms.length cap ∧ Mks w a ms := by
  rcases open_slice ht h with ⟨hv, _⟩ | ⟨a, len, cap, m, n, D, Pl, hcs, _, hl, hm, hmm, _, hi⟩
  · simp at hv; exact ⟨none, 0, [], hv, ⟨by simp, fun i hi => absurd hi (by simp)⟩, .inl rfl⟩
  · simp at hcs
    have hlm : len ≤ m := by rw [hmm]; split <;> omega
    rw [hC] at hi
    rcases Nat.eq_zero_or_pos len with h0 | hpos
    · subst h0; exact ⟨some a, cap, [], hcs, ⟨by simp, fun i hi => absurd hi (by simp)⟩, .inl rfl⟩
    · have each : ∀ i, i < len → ∃ mm : M5, (w.cell? (a.add (i * 5)) = some (.string mm.n) ∧ w.cell? (a.add (i * 5 + 1)) = some (.int .i64 mm.x) ∧ w.cell? (a.add (i * 5 + 2)) = some (.int .i64 mm.y) ∧ w.cell? (a.add (i * 5 + 3)) = some (.int .i64 mm.s) ∧ w.cell? (a.add (i * 5 + 4)) = some (.int .i64 mm.z)) ∧ mm.n.size ≤ maxLen := by
        intro i hil
        obtain ⟨cs, hc, hd⟩ := hi i (by omega)
        obtain ⟨_, hcl, hat⟩ := World.cells?_some hc
        obtain ⟨mm, rfl, hsz⟩ := open_mark hs hC l0 l1 l2 l3 hn hp k0 k1 i0 i1 i2 i3 hd
        refine ⟨mm, ⟨?_, ?_, ?_, ?_, ?_⟩, hsz⟩
        · have := hat 0 (by omega); simpa [add_add] using this
        · have := hat 1 (by omega); simpa [add_add] using this
        · have := hat 2 (by omega); simpa [add_add] using this
        · have := hat 3 (by omega); simpa [add_add] using this
        · have := hat 4 (by omega); simpa [add_add] using this
      obtain ⟨b, off, spot⟩ := a
      obtain ⟨f, ⟨hf, _⟩, _⟩ := each 0 hpos
      have hspot : spot = none := by simpa [Addr.add] using World.cell?_spot hf
      subst hspot
      obtain ⟨ms, hfl, hF, hfs⟩ := gather (w := w) (b := b) (off := off) len (fun i hil => by
        obtain ⟨f, ⟨g0, g1, g2, g3, g4⟩, hsz⟩ := each i hil
        rw [add_plain] at g0 g1 g2 g3 g4
        exact ⟨f, ⟨g0, by rw [Nat.add_assoc]; exact g1, by rw [Nat.add_assoc]; exact g2, by rw [Nat.add_assoc]; exact g3, by rw [Nat.add_assoc]; exact g4⟩, hsz⟩)
      subst hfl
      exact ⟨_, cap, ms, hcs, ⟨by omega, hF⟩, .inr ⟨b, off, rfl, hfs⟩⟩
theorem open_course {r : Reach} {bb : Nat} {t e : TypeId} {s0 s1 s2 q0 q1 f0 f1 f2 f3 g0 g1 : Field} {v : Value} {d : DataW H} {p : List MemPlace}
    (hs : P.underlying t = some (.struct #[s0, s1, s2])) (hC : P.cellsOf t = 9) (m0 : Lay P s0 0 4) (m1 : Lay P s1 4 4) (m2 : Lay P s2 8 1)
    (hl0 : P.underlying s0.type = some (.struct #[q0, q1])) (hl1 : P.underlying s1.type = some (.struct #[q0, q1])) (hl2 : P.underlying s2.type = some (.slice e))
    (n0 : Lay P q0 0 2) (n1 : Lay P q1 2 2) (hq0 : P.underlying q0.type = some (.struct #[g0, g1])) (hq1 : P.underlying q1.type = some (.struct #[g0, g1]))
    (he : P.underlying e = some (.struct #[f0, f1, f2, f3])) (hCe : P.cellsOf e = 5)
    (l0 : Lay P f0 0 1) (l1 : Lay P f1 1 2) (l2 : Lay P f2 3 1) (l3 : Lay P f3 4 1) (hn : P.underlying f0.type = some .string) (hp : P.underlying f1.type = some (.struct #[g0, g1]))
    (k0 : Lay P g0 0 1) (k1 : Lay P g1 1 1) (i0 : P.underlying g0.type = some (.int .i64)) (i1 : P.underlying g1.type = some (.int .i64)) (i2 : P.underlying f2.type = some (.int .i64)) (i3 : P.underlying f3.type = some (.int .i64))
    (hv : Value.okWide P w r bb t v) (h : DataW.Trod enc P w base spare held t v d p) : ∃ (l k : L4) (a : Option Addr) (cap : Nat) (ms : List M5), v = CV l k (.slice a ms.length cap) ∧ Mks w a ms := by
  obtain ⟨cs, rfl, hsz⟩ := okWide_struct hs hv
  rw [hC] at hsz
  obtain ⟨fuel, hf⟩ := h
  obtain ⟨xs, n, _, _, _, hlen, hg⟩ := DataW.trod_struct hs hf
  obtain ⟨c0, c1, c2, c3, c4, c5, c6, c7, c8, rfl⟩ : ∃ c0 c1 c2 c3 c4 c5 c6 c7 c8, cs = #[c0, c1, c2, c3, c4, c5, c6, c7, c8] := by
    obtain ⟨l⟩ := cs
    match l, hsz with
    | [c0, c1, c2, c3, c4, c5, c6, c7, c8], _ => exact ⟨c0, c1, c2, c3, c4, c5, c6, c7, c8, rfl⟩
  have r0 := hg 0 s0 rfl
  have r1 := hg 1 s1 rfl
  have r2 := hg 2 s2 rfl
  simp at hlen
  rw [m0.1, m0.2, List.getElem?_eq_getElem (by omega)] at r0
  rw [m1.1, m1.2, List.getElem?_eq_getElem (by omega)] at r1
  rw [m2.1, m2.2, List.getElem?_eq_getElem (by omega)] at r2
  obtain ⟨l, e0⟩ := open_line hl0 m0.2 n0 n1 hq0 hq1 k0 k1 i0 i1 r0
  obtain ⟨k, e1⟩ := open_line hl1 m1.2 n0 n1 hq0 hq1 k0 k1 i0 i1 r1
  simp [Value.cells] at e0 e1 r2
  obtain ⟨rfl, rfl, rfl, rfl⟩ := e0
  obtain ⟨rfl, rfl, rfl, rfl⟩ := e1
  obtain ⟨a, cap, ms, rfl, hM⟩ := open_marks hl2 he hCe l0 l1 l2 l3 hn hp k0 k1 i0 i1 i2 i3 r2
  exact ⟨l, k, a, cap, ms, rfl, hM⟩
end
end Go.Proofs.YtmlojndkpnhalaaGreat.Crs
