import Derived.Test.YtmlojndkpnhalaaGreatCrv5
namespace Go.Proofs.YtmlojndkpnhalaaGreat.Rwk
open Go.ChangeShapes Go.WideShapes Go.ChangeAt Go.RowKit
open Go.Proofs.YtmlojndkpnhalaaGreat.Num Go.Proofs.YtmlojndkpnhalaaGreat.Kit Go.Proofs.YtmlojndkpnhalaaGreat.Pts Go.Proofs.YtmlojndkpnhalaaGreat.Seg Go.Proofs.YtmlojndkpnhalaaGreat.Trk
set_option linter.unusedVariables false
set_option linter.unusedSimpArgs false
theorem row_ext {w w' : World} {base size n : Nat} {e : TypeId} {v : Value} {xs : List Value} (h : w.ownsRow base e size v n xs) (k : Ext w w') : w'.ownsRow base e size v n xs := by
  refine World.ownsRow.kept h (row := none) ⟨Below.os k, Below.tape k, Below.output k, Below.size k, fun i hi _ => Below.block k i hi⟩ ?_
  cases v.ownBlock with
  | none => exact .inl rfl
  | some g => exact .inr (by simp)
theorem row_grown {w w' : World} {base size n : Nat} {e : TypeId} {v : Value} {xs : List Value} {w0 : World} (h : w.ownsRow base e size v n xs) (hg : w.grownBy w' v.ownBlock) (hb : w0.heap.size ≤ base) (hc : Ext w0 w) : Ext w0 w' :=
  ⟨hg.os.trans (Below.os hc), hg.tape.trans (Below.tape hc), hg.output.trans (Below.output hc), Nat.le_trans (Ext.size hc) hg.size, fun k hk => (hg.block k (Nat.lt_of_lt_of_le hk (Ext.size hc)) (fun e => by have := (World.ownsRow.lt h k e.symm).1; omega)).trans (Below.block hc k hk)⟩
theorem row_mono {w : World} {base b2 size n : Nat} {e : TypeId} {v : Value} {xs : List Value} (h : w.ownsRow base e size v n xs) (hb : b2 ≤ base) : w.ownsRow b2 e size v n xs := by
  refine ⟨h.1, ?_⟩
  rcases h.2 with h1 | ⟨g, cap, cur, hv, hg, r⟩
  · exact .inl h1
  · exact .inr ⟨g, cap, cur, hv, by omega, r⟩
theorem lit5_at {w : World} {a b c d e : Value} {t : TypeId} {n : Nat} (hn : w.heap.size = n) : ∀ (j : Nat) (u : Value), ([a, b, c, d, e] : List Value)[j]? = some u → (w.alloc (.cells #[a, b, c, d, e] t)).cell? ((⟨n, 0, none⟩ : Addr).add j) = some u := by
  intro j u hu
  rw [show (⟨n, 0, none⟩ : Addr).add j = ⟨n, j, none⟩ by simp [Addr.add]; omega]
  exact boxed j (by simpa using hu) hn
def OwnC (w : World) (base : Nat) (v : Value) (cs : List C5) : Prop := w.ownsRow base 188 5 v cs.length (cellsC cs)
theorem OwnC.ext {w w' : World} {base : Nat} {v : Value} {cs : List C5} (h : OwnC w base v cs) (k : Ext w w') : OwnC w' base v cs := row_ext h k
theorem OwnC.mono {w : World} {base b2 : Nat} {v : Value} {cs : List C5} (h : OwnC w base v cs) (hb : b2 ≤ base) : OwnC w b2 v cs := row_mono h hb
theorem OwnC.chg {w w' : World} {base B : Nat} {v : Value} {cs : List C5} (h : OwnC w base v cs) (k : Chg B w w') (hB : v.ownBlock ≠ some B) : OwnC w' base v cs :=
  World.ownsRow.kept h (row := some B) ⟨k.os, k.tape, k.output, k.size, fun i hi hne => k.block i hi (fun e => hne (by rw [e]))⟩ (.inr hB)
theorem OwnC.block {w : World} {base : Nat} {v : Value} {cs : List C5} (h : OwnC w base v cs) {B : Nat} (hB : B < base) : v.ownBlock ≠ some B := fun e => by have := (World.ownsRow.lt h B e).1; omega
def CAt (w : World) (b o : Nat) (c : C5) : Prop := w.cell? ⟨b, o, none⟩ = some (.int .i64 c.t) ∧ w.cell? ⟨b, o + 1, none⟩ = some (.int .i64 c.l) ∧ w.cell? ⟨b, o + 2, none⟩ = some (.int .i64 c.g) ∧ w.cell? ⟨b, o + 3, none⟩ = some (.int .i64 c.x) ∧ w.cell? ⟨b, o + 4, none⟩ = some (.int .i64 c.y)
theorem CAt.ext {w w' : World} {b o : Nat} {c : C5} (h : CAt w b o c) (k : Ext w w') : CAt w' b o c := ⟨k.cellOf h.1, k.cellOf h.2.1, k.cellOf h.2.2.1, k.cellOf h.2.2.2.1, k.cellOf h.2.2.2.2⟩
theorem OwnC.cases {w : World} {base : Nat} {v : Value} {cs : List C5} (h : OwnC w base v cs) :
    (v = .slice none 0 0 ∧ cs = []) ∨ ∃ g cap, v = .slice (some ⟨g, 0, none⟩) cs.length cap ∧ base ≤ g ∧ (∀ i, i < cs.length → CAt w g (i * 5) (cx cs i)) ∧ (∀ j, w.frozen? ⟨g, j, none⟩ = false) ∧ v.ownBlock = some g := by
  have h0 := h
  rcases h.2 with ⟨hv, hn⟩ | ⟨g, cap, cur, hv, hb, hg, hc, hm, hs, ht⟩
  · exact .inl ⟨hv, List.length_eq_zero_iff.1 hn⟩
  · rw [hv] at h0
    refine .inr ⟨g, cap, hv, hb, fun i hi => ?_, fun j => World.ownsRow.frozenAt h0 j, by rw [hv]; rfl⟩
    obtain ⟨c0, c1, c2, c3, c4⟩ := cellsC_get cs i hi
    exact ⟨by rw [World.ownsRow.cellAt h0 (i * 5) (by omega)]; exact c0, by rw [World.ownsRow.cellAt h0 (i * 5 + 1) (by omega)]; exact c1, by rw [World.ownsRow.cellAt h0 (i * 5 + 2) (by omega)]; exact c2,
      by rw [World.ownsRow.cellAt h0 (i * 5 + 3) (by omega)]; exact c3, by rw [World.ownsRow.cellAt h0 (i * 5 + 4) (by omega)]; exact c4⟩
def Cxs (w : World) (a : Option Addr) (cs : List C5) : Prop :=
  cs.length ≤ maxLen ∧ (cs = [] ∨ ∃ b off, a = some ⟨b, off, none⟩ ∧ ∀ i, i < cs.length → CAt w b (off + i * 5) (cx cs i))
theorem Cxs.ext {w w' : World} {a : Option Addr} {cs : List C5} (h : Cxs w a cs) (k : Ext w w') : Cxs w' a cs := by
  refine ⟨h.1, ?_⟩
  rcases h.2 with h | ⟨b, off, ha, h⟩
  · exact .inl h
  · exact .inr ⟨b, off, ha, fun i hi => (h i hi).ext k⟩
theorem Cxs.row {w : World} {a : Option Addr} {cs : List C5} (h : Cxs w a cs) (h0 : 0 < cs.length) : ∃ b off, a = some ⟨b, off, none⟩ ∧ ∀ i, i < cs.length → CAt w b (off + i * 5) (cx cs i) := by
  rcases h.2 with e | e
  · rw [e] at h0; simp at h0
  · exact e
theorem OwnC.cxs {w : World} {base : Nat} {v : Value} {cs : List C5} (h : OwnC w base v cs) (hl : cs.length ≤ maxLen) : ∃ a cap, v = .slice a cs.length cap ∧ Cxs w a cs := by
  rcases h.cases with ⟨hv, rfl⟩ | ⟨g, cap, hv, _, hc, _⟩
  · exact ⟨none, 0, hv, hl, .inl rfl⟩
  · exact ⟨some ⟨g, 0, none⟩, cap, hv, hl, .inr ⟨g, 0, rfl, fun i hi => by rw [Nat.zero_add]; exact hc i hi⟩⟩
end Go.Proofs.YtmlojndkpnhalaaGreat.Rwk
