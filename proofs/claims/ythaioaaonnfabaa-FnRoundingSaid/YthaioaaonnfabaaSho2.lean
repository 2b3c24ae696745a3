/- ShortenCourse (impl, spec): both answers. -/
import Derived.Test.YthaioaaonnfabaaSho
import Derived.Test.YthaioaaonnfabaaCrs2
import Derived.Deep.RegionHeld3
import Derived.Deep.DeepCutAuto
namespace Go.Proofs.Ythaioaaonnfabaa.Crs
open Go.ChangeShapes Go.WideShapes Go.ChangeAt Go.RowKit
open Go.Proofs.Ythaioaaonnfabaa.Num Go.Proofs.Ythaioaaonnfabaa.Kit Go.Proofs.Ythaioaaonnfabaa.Pts Go.Proofs.Ythaioaaonnfabaa.Seg
set_option linter.unusedVariables false
set_option linter.unusedSimpArgs false

abbrev put9 (w : World) (B : Nat) (a b c d e f g h i : Value) : World := (((((((((w).setCell ⟨B, 0, none⟩ (a)).setCell ⟨B, 1, none⟩ (b)).setCell ⟨B, 2, none⟩ (c)).setCell ⟨B, 3, none⟩ (d)).setCell ⟨B, 4, none⟩ (e)).setCell ⟨B, 5, none⟩ (f)).setCell ⟨B, 6, none⟩ (g)).setCell ⟨B, 7, none⟩ (h)).setCell ⟨B, 8, none⟩ (i)
theorem Box.put9 {w : World} {n : Nat} {x0 x1 x2 x3 x4 x5 x6 x7 x8 : Value} (H : Box w n [x0, x1, x2, x3, x4, x5, x6, x7, x8]) (a b c d e f g h i : Value) : Box (Crs.put9 w n a b c d e f g h i) n [a, b, c, d, e, f, g, h, i] :=
  ((((((((H.set 0 (by simp) a).set 1 (by simp) b).set 2 (by simp) c).set 3 (by simp) d).set 4 (by simp) e).set 5 (by simp) f).set 6 (by simp) g).set 7 (by simp) h).set 8 (by simp) i
theorem Box.put9_away {w : World} {n m : Nat} {vs : List Value} (H : Box w m vs) (hn : n ≠ m) (a b c d e f g h i : Value) : Box (Crs.put9 w n a b c d e f g h i) m vs :=
  ((((((((H.away hn a).away hn b).away hn c).away hn d).away hn e).away hn f).away hn g).away hn h).away hn i
theorem Ext.put9 {w0 w : World} {n : Nat} (H : Ext w0 w) (hn : w0.heap.size ≤ n) (a b c d e f g h i : Value) : Ext w0 (Crs.put9 w n a b c d e f g h i) :=
  ((((((((H.setNew hn a).setNew hn b).setNew hn c).setNew hn d).setNew hn e).setNew hn f).setNew hn g).setNew hn h).setNew hn i
theorem Chg.put9 {w : World} {n : Nat} (a b c d e f g h i : Value) : Chg n w (Crs.put9 w n a b c d e f g h i) :=
  ((((((((Chg.refl n w).setCell 0 a).setCell 1 b).setCell 2 c).setCell 3 d).setCell 4 e).setCell 5 f).setCell 6 g).setCell 7 h |>.setCell 8 i

/-- The code of ShortenCourse, and what it answers. -/
def shC (l k f : L4) (ms : List M5) (q : Int) : Int := if crB l k ms = true then (if 1 ≤ q ∧ q ≤ ms.length then (if crB l f (ms.take q.toNat) = true then 0 else 5) else 2) else 1
def shL (l k f : L4) (ms : List M5) (q : Int) : L4 := if shC l k f ms q = 0 then l else zeroL
def shF (l k f : L4) (ms : List M5) (q : Int) : L4 := if shC l k f ms q = 0 then f else zeroL
def shM (l k f : L4) (ms : List M5) (q : Int) : List M5 := if shC l k f ms q = 0 then ms.take q.toNat else []
theorem sh_bad {l k f : L4} {ms : List M5} {q : Int} (h : shC l k f ms q ≠ 0) : shL l k f ms q = zeroL ∧ shF l k f ms q = zeroL ∧ shM l k f ms q = [] := ⟨if_neg h, if_neg h, if_neg h⟩
theorem sh_good {l k f : L4} {ms : List M5} {q : Int} (h : shC l k f ms q = 0) : shL l k f ms q = l ∧ shF l k f ms q = f ∧ shM l k f ms q = ms.take q.toNat := ⟨if_pos h, if_pos h, if_pos h⟩
def ShPost (w : World) (l k f : L4) (ms : List M5) (q : Int) (e : Ending) (w' : World) : Prop :=
  ∃ v, e = .returned (.tuple #[CV (shL l k f ms q) (shF l k f ms q) v, .int .i64 (shC l k f ms q)]) ∧ OwnM w' w.heap.size v (shM l k f ms q) ∧ Ext w w'
theorem ShPost.bad {w w' : World} {l k f : L4} {ms : List M5} {q c : Int} (hc : shC l k f ms q = c) (h : c ≠ 0) (x : Ext w w') : ShPost w l k f ms q (.returned (.tuple #[CV zeroL zeroL (.slice none 0 0), .int .i64 c])) w' := by
  obtain ⟨h1, h2, h3⟩ := sh_bad (l := l) (k := k) (f := f) (ms := ms) (q := q) (by rw [hc]; exact h)
  exact ⟨_, by rw [h1, h2, hc], by rw [h3]; exact World.ownsRow_nil _ _ _ _, x⟩
theorem ShPost.good {w w' : World} {l k f : L4} {ms : List M5} {q : Int} {v : Value} (hc : shC l k f ms q = 0) (O : OwnM w' w.heap.size v (ms.take q.toNat)) (x : Ext w w') : ShPost w l k f ms q (.returned (.tuple #[CV l f v, .int .i64 0])) w' := by
  obtain ⟨h1, h2, h3⟩ := sh_good hc
  exact ⟨v, by rw [h1, h2, hc], by rw [h3]; exact O, x⟩

end Go.Proofs.Ythaioaaonnfabaa.Crs
