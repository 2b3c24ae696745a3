/- One way of l03DrawAny: a track that is lengthened. -/
import Derived.Test.YtlheppblioglpaaDrawL
namespace Go.Proofs.Ytlheppblioglpaa.Trk
open Go.ChangeShapes Go.WideShapes Go.ChangeAt Go.RowKit
open Go.Proofs.Ytlheppblioglpaa.Num Go.Proofs.Ytlheppblioglpaa.Kit Go.Proofs.Ytlheppblioglpaa.Pts Go.Proofs.Ytlheppblioglpaa.Draw
set_option linter.unusedVariables false
set_option linter.unusedSimpArgs false

/-- An append to a row of the call's own, as one step of a region that draws. -/
theorem step_append_own {P : Program} {ops : Array Oper} {o : Oper} {a : Act} {w : World} {K : Act → World → Prop} {Q : Exit → Act → World → Prop} {E : Prop}
    (hg : o.guard = none) (s x : Operand) (t : TypeId) (hop : o.op = Op.call { callee := Callee.builtin Builtin.append, args := #[s, x], argTypes := #[t, t] })
    (base : Nat) (e : TypeId) (i : TypeInfo) (z : Value) (size bytes : Nat) (h1 : P.underlying t = some (.slice e)) (h2 : P.info? e = some i) (h3 : i.zero = some z) (h4 : i.size = size) (h5 : i.bytes = bytes) (h6 : z.cells.size = size) (h7 : 0 < size)
    (v : Value) (n : Nat) (xs : List Value) (hs : a.eval s = v) (hown : w.ownsRow base e size v n xs)
    (ad : Addr) (m c : Nat) (news : List Value) (hx : a.eval x = .slice (some ad) m c) (hn : news.length = m * size) (hc : ∀ j u, news[j]? = some u → w.cell? (ad.add j) = some u) (h1c : ∀ u ∈ news, u.oneCell' = true)
    (b1 : n + m ≤ maxLen) (b2 : (n + m) * bytes ≤ 140737488355328) (hb : base ≤ w.heap.size)
    (hK : ∀ v' w', w'.ownsRow base e size v' (n + m) (xs ++ news) → w.grownBy w' v.ownBlock → K (a.put o.dst v') w') :
    if Region.wanted o (yielded ops a.tmps) = true then Oper.wp P o a w K Q else E := by
  rw [if_pos (by simp [Region.wanted, hg])]
  exact wp_append_own w s x t hop base e i z size bytes h1 h2 h3 h4 h5 h6 h7 v n xs hs hown ad m c news hx hn hc h1c b1 b2 hb (fun v' w' k1 k2 _ => hK v' w' k1 k2)

theorem ResC.of1 {WL W : World} {n : Nat} {x : Value} (h : Box WL n [x]) (k : Ext WL W) : ResC WL n 1 W :=
  ResC.ext ⟨Chg.refl _ _, fun i hi => match i, hi with
    | 0, _ => ⟨x, h 0 x rfl⟩⟩ k

theorem Own.cells {w : World} {g : Nat} {fs : List F3} (h : Own w g fs) : ∀ (j : Nat) (u : Value), (cellsF fs)[j]? = some u → w.cell? ((⟨g, 0, none⟩ : Addr).add j) = some u := by
  intro j u hu
  rw [show (⟨g, 0, none⟩ : Addr).add j = ⟨g, j, none⟩ by simp [Addr.add]; omega]
  have hj : j < fs.length * 3 := by rw [← cellsF_len]; exact (List.getElem?_eq_some_iff.1 hu).1
  obtain ⟨⟨c0, c1, c2⟩, _⟩ := h (j / 3) (by omega)
  obtain ⟨d0, d1, d2⟩ := cellsF_get fs (j / 3) (by omega)
  rcases (show j = j / 3 * 3 ∨ j = j / 3 * 3 + 1 ∨ j = j / 3 * 3 + 2 by omega) with e | e | e
  · rw [e] at hu ⊢; rw [d0] at hu; cases hu; exact c0
  · rw [e] at hu ⊢; rw [d1] at hu; cases hu; exact c1
  · rw [e] at hu ⊢; rw [d2] at hu; cases hu; exact c2

theorem adr (n j : Nat) : (⟨n, 0, none⟩ : Addr).add j = ⟨n, j, none⟩ := by simp [Addr.add]; omega

def SrcC (W : World) (B : Nat) (w' : World) : Prop := Chg B W w' ∧ Src w' B

/-- What the loop keeps: box T has a row of n fixes. -/
def RelK (w : World) (B T : Nat) (wr : World) : Prop :=
  ∃ (g cap n : Nat), 2 ≤ n ∧ n ≤ 41 ∧ n ≤ cap ∧ w.heap.size < g ∧ g ≠ T ∧ Box wr T [.slice (some ⟨g, 0, none⟩) n cap] ∧ Box wr w.heap.size [.slice none 0 0] ∧ IntRow wr g n ∧ Src wr B ∧ Chg B w wr
/-- How much longer the track may become. -/
def lenAt (wr : World) (T : Nat) : Nat := match wr.cell? ⟨T, 0, none⟩ with
  | some (.slice _ n _) => n
  | _ => 0
theorem lenAt_eq {wr : World} {T n cap : Nat} {a : Option Addr} (h : wr.cell? ⟨T, 0, none⟩ = some (.slice a n cap)) : lenAt wr T = n := by unfold lenAt; rw [h]

end Go.Proofs.Ytlheppblioglpaa.Trk
