/- Words on worlds, of no program: what a call leaves of the memory that was there. -/
import Derived.WalkKit
import Derived.ProofKit
import Derived.OpenShut
import Derived.Lib.Hide
import Derived.ChangeOld
import Derived.Below
import Derived.Deep.Draws
import Derived.WalkSmall
namespace Go.Proofs.YtknelhceaoblhaaDoor.Kit
open Go.ChangeShapes Go.WideShapes Go.ChangeAt Go.RowKit

/-- The world w' is w with new blocks: nothing that was there is written. -/
def Ext (w w' : World) : Prop := Below w.heap.size w w'
theorem Ext.refl (w : World) : Ext w w := Below.refl _ _
theorem Ext.below {w w' : World} (h : Ext w w') : Below w.heap.size w w' := h
theorem Ext.size {w w' : World} (h : Ext w w') : w.heap.size ≤ w'.heap.size := Below.size h
theorem Ext.trans {a b c : World} (h : Ext a b) (k : Ext b c) : Ext a c := Below.trans h (Below.mono k h.size)
theorem Ext.alloc {a b : World} (h : Ext a b) (o : Obj) : Ext a (b.alloc o) := Below.alloc h h.size o
theorem Ext.drew {a b : World} (h : Ext a b) : Ext a b.drew := Below.drew h
theorem Ext.drewN {a b : World} (h : Ext a b) (n : Nat) : Ext a (b.drewN n) := below_drewN h n
theorem Ext.setNew {a b : World} (h : Ext a b) {p : Addr} (hp : a.heap.size ≤ p.block) (u : Value) : Ext a (b.setCell p u) := Below.setCell h hp u
/-- A cell that is there holds what it held. -/
theorem Ext.cellOf {w w' : World} (h : Ext w w') {a : Addr} {v : Value} (hc : w.cell? a = some v) : w'.cell? a = some v := by
  rw [Below.cell h (World.block_lt_of_cell? w _ hc)]; exact hc
theorem Ext.thawOf {w w' : World} (h : Ext w w') {a : Addr} {v : Value} (hc : w.cell? a = some v) (hf : w.frozen? a = false) : w'.frozen? a = false := by
  rw [Below.frozen h (World.block_lt_of_cell? w _ hc)]; exact hf
theorem boxed {w : World} {cs : Array Value} {t : TypeId} (i : Nat) {v : Value} (h : cs[i]? = some v) {n : Nat} (hn : w.heap.size = n) : (w.alloc (.cells cs t)).cell? ⟨n, i, none⟩ = some v := by
  rw [World.cell?_alloc_at cs t n i hn.symm]; exact h
theorem thawed {w : World} {cs : Array Value} {t : TypeId} (i : Nat) {n : Nat} (hn : w.heap.size = n) : (w.alloc (.cells cs t)).frozen? ⟨n, i, none⟩ = false := by
  subst hn; unfold World.frozen?; rw [show (w.alloc (.cells cs t)).heap[w.heap.size]? = _ from heap_alloc_new w _]; simp
theorem Ext.facts {W w1 : World} (hb : Ext W w1) : (∀ b o, b < W.heap.size → w1.cell? ⟨b, o, none⟩ = W.cell? ⟨b, o, none⟩) ∧ (∀ b o, b < W.heap.size → w1.frozen? ⟨b, o, none⟩ = W.frozen? ⟨b, o, none⟩) :=
  ⟨fun b o h => Below.cell hb (p := ⟨b, o, none⟩) h, fun b o h => Below.frozen hb (p := ⟨b, o, none⟩) h⟩

theorem boxes2 (w : World) (t : TypeId) (x y u v : Int) :
    (((w.alloc (.cells #[.int .i64 x, .int .i64 y] t)).alloc (.cells #[.int .i64 u, .int .i64 v] t)).cell? ⟨w.heap.size, 0, none⟩ = some (.int .i64 x)) ∧
    (((w.alloc (.cells #[.int .i64 x, .int .i64 y] t)).alloc (.cells #[.int .i64 u, .int .i64 v] t)).cell? ⟨w.heap.size, 1, none⟩ = some (.int .i64 y)) ∧
    (((w.alloc (.cells #[.int .i64 x, .int .i64 y] t)).alloc (.cells #[.int .i64 u, .int .i64 v] t)).cell? ⟨w.heap.size + 1, 0, none⟩ = some (.int .i64 u)) ∧
    (((w.alloc (.cells #[.int .i64 x, .int .i64 y] t)).alloc (.cells #[.int .i64 u, .int .i64 v] t)).cell? ⟨w.heap.size + 1, 1, none⟩ = some (.int .i64 v)) :=
  ⟨((Ext.refl _).alloc _).cellOf (boxed 0 rfl rfl), ((Ext.refl _).alloc _).cellOf (boxed 1 rfl rfl), boxed 0 rfl (by simp), boxed 1 rfl (by simp)⟩
theorem boxes3 (w : World) (t : TypeId) (x y u v a b : Int) :
    ((((w.alloc (.cells #[.int .i64 x, .int .i64 y] t)).alloc (.cells #[.int .i64 u, .int .i64 v] t)).alloc (.cells #[.int .i64 a, .int .i64 b] t)).cell? ⟨w.heap.size, 0, none⟩ = some (.int .i64 x)) ∧
    ((((w.alloc (.cells #[.int .i64 x, .int .i64 y] t)).alloc (.cells #[.int .i64 u, .int .i64 v] t)).alloc (.cells #[.int .i64 a, .int .i64 b] t)).cell? ⟨w.heap.size, 1, none⟩ = some (.int .i64 y)) ∧
    ((((w.alloc (.cells #[.int .i64 x, .int .i64 y] t)).alloc (.cells #[.int .i64 u, .int .i64 v] t)).alloc (.cells #[.int .i64 a, .int .i64 b] t)).cell? ⟨w.heap.size + 1, 0, none⟩ = some (.int .i64 u)) ∧
    ((((w.alloc (.cells #[.int .i64 x, .int .i64 y] t)).alloc (.cells #[.int .i64 u, .int .i64 v] t)).alloc (.cells #[.int .i64 a, .int .i64 b] t)).cell? ⟨w.heap.size + 1, 1, none⟩ = some (.int .i64 v)) ∧
    ((((w.alloc (.cells #[.int .i64 x, .int .i64 y] t)).alloc (.cells #[.int .i64 u, .int .i64 v] t)).alloc (.cells #[.int .i64 a, .int .i64 b] t)).cell? ⟨w.heap.size + 1 + 1, 0, none⟩ = some (.int .i64 a)) ∧
    ((((w.alloc (.cells #[.int .i64 x, .int .i64 y] t)).alloc (.cells #[.int .i64 u, .int .i64 v] t)).alloc (.cells #[.int .i64 a, .int .i64 b] t)).cell? ⟨w.heap.size + 1 + 1, 1, none⟩ = some (.int .i64 b)) :=
  ⟨(((Ext.refl _).alloc _).alloc _).cellOf (boxed 0 rfl rfl), (((Ext.refl _).alloc _).alloc _).cellOf (boxed 1 rfl rfl), ((Ext.refl _).alloc _).cellOf (boxed 0 rfl (by simp)), ((Ext.refl _).alloc _).cellOf (boxed 1 rfl (by simp)), boxed 0 rfl (by simp), boxed 1 rfl (by simp)⟩

/-- Nothing that was there is written but block B. -/
structure Chg (B : Nat) (w w' : World) : Prop where
  os : w'.os = w.os
  tape : w'.tape = w.tape
  output : w'.output = w.output
  size : w.heap.size ≤ w'.heap.size
  block : ∀ k, k < w.heap.size → k ≠ B → w'.heap[k]? = w.heap[k]?

theorem Chg.refl (B : Nat) (w : World) : Chg B w w := ⟨rfl, rfl, rfl, Nat.le_refl _, fun _ _ _ => rfl⟩
theorem Chg.trans {B : Nat} {a b c : World} (h : Chg B a b) (k : Chg B b c) : Chg B a c :=
  ⟨k.os.trans h.os, k.tape.trans h.tape, k.output.trans h.output, Nat.le_trans h.size k.size, fun i hi hB => (k.block i (Nat.lt_of_lt_of_le hi h.size) hB).trans (h.block i hi hB)⟩
theorem Chg.of_ext {B : Nat} {a b : World} (h : Ext a b) : Chg B a b := ⟨Below.os h, Below.tape h, Below.output h, Below.size h, fun i hi _ => Below.block h i hi⟩
theorem Chg.alloc {B : Nat} {a b : World} (h : Chg B a b) (o : Obj) : Chg B a (b.alloc o) := h.trans (Chg.of_ext ((Ext.refl b).alloc o))
theorem Chg.drew {B : Nat} {a b : World} (h : Chg B a b) : Chg B a b.drew := h.trans (Chg.of_ext ((Ext.refl b).drew))
theorem Chg.drewN {B : Nat} {a b : World} (h : Chg B a b) (n : Nat) : Chg B a (b.drewN n) := h.trans (Chg.of_ext ((Ext.refl b).drewN n))
theorem Chg.setCell {B : Nat} {a b : World} (h : Chg B a b) (o : Nat) (v : Value) : Chg B a (b.setCell ⟨B, o, none⟩ v) :=
  h.trans ⟨rfl, rfl, rfl, by simp [World.setCell], fun k _ hk => Below.heap_setCell _ _ _ _ hk⟩
/-- A store into a block that is new since a. -/
theorem Chg.setNew {B : Nat} {a b : World} (h : Chg B a b) {p : Addr} (hp : a.heap.size ≤ p.block) (v : Value) : Chg B a (b.setCell p v) :=
  ⟨h.os, h.tape, h.output, Nat.le_trans h.size (by simp [World.setCell]), fun k hk hB => (Below.heap_setCell b p v k (by omega)).trans (h.block k hk hB)⟩
theorem Chg.cellOf {B : Nat} {w w' : World} (h : Chg B w w') {a : Addr} {v : Value} (hB : a.block ≠ B) (hc : w.cell? a = some v) : w'.cell? a = some v := by
  rw [World.cell?_of_block (w := w) (h.block a.block (World.block_lt_of_cell? w _ hc) hB)]; exact hc
theorem Chg.frozenOf {B : Nat} {w w' : World} (h : Chg B w w') {a : Addr} (hB : a.block ≠ B) (hl : a.block < w.heap.size) : w'.frozen? a = w.frozen? a :=
  World.frozen?_of_block (w := w) (h.block a.block hl hB)
theorem Chg.thawOf {B : Nat} {w w' : World} (h : Chg B w w') {a : Addr} {v : Value} (hB : a.block ≠ B) (hc : w.cell? a = some v) (hf : w.frozen? a = false) : w'.frozen? a = false := by
  rw [h.frozenOf hB (World.block_lt_of_cell? w _ hc)]; exact hf
theorem Chg.facts {B : Nat} {w w' : World} (h : Chg B w w') : (∀ b o, b < w.heap.size → b ≠ B → w'.cell? ⟨b, o, none⟩ = w.cell? ⟨b, o, none⟩) ∧ (∀ b o, b < w.heap.size → b ≠ B → w'.frozen? ⟨b, o, none⟩ = w.frozen? ⟨b, o, none⟩) :=
  ⟨fun b _ h1 h2 => World.cell?_of_block (w := w) (h.block b h1 h2), fun b _ h1 h2 => World.frozen?_of_block (w := w) (h.block b h1 h2)⟩
/-- What writes no block but a new one writes nothing that was there. -/
theorem Chg.ext {B : Nat} {a b c : World} (h : Chg B b c) (k : Ext a b) (hB : a.heap.size ≤ B) : Ext a c :=
  ⟨h.os.trans (Below.os k), h.tape.trans (Below.tape k), h.output.trans (Below.output k), Nat.le_trans (Ext.size k) h.size, fun i hi => (h.block i (Nat.lt_of_lt_of_le hi (Ext.size k)) (by omega)).trans (Below.block k i hi)⟩

/-- What is told of a slice of integers that came in: nil, or a row of 'cap' cells, the numbers zs. -/
def IsRow (k : IntKind) (w : World) (a : Option Addr) (len cap : Nat) (zs : List Int) : Prop :=
  (a = none ∧ len = 0 ∧ cap = 0 ∧ zs = []) ∨
  ∃ x, a = some x ∧ len ≤ cap ∧ cap ≤ maxLen ∧ zs.length = cap ∧ (∀ i, i < zs.length → w.cell? (x.add i) = some (.int k (zs.getD i 0))) ∧ ∀ n ∈ zs, (Lit.int k n).wf = true

/-- A slice of bytes of a length that reads as letters. -/
def Bytes (w : World) (a : Option Addr) (len : Nat) : Prop :=
  len = 0 ∨ ∃ b off, a = some ⟨b, off, none⟩ ∧ ∀ i, i < len → ∃ z : Int, 0 ≤ z ∧ z ≤ 255 ∧ w.cell? ⟨b, off + i, none⟩ = some (.int .u8 z)

theorem Bytes.ext {w w' : World} {a : Option Addr} {len : Nat} (h : Bytes w a len) (k : Ext w w') : Bytes w' a len := by
  rcases h with h | ⟨b, off, ha, h⟩
  · exact .inl h
  · exact .inr ⟨b, off, ha, fun i hi => by obtain ⟨z, z0, z1, hz⟩ := h i hi; exact ⟨z, z0, z1, k.cellOf hz⟩⟩

theorem IsRow.bytes {w : World} {a : Option Addr} {len cap : Nat} {zs : List Int} (h : IsRow .u8 w a len cap zs) : Bytes w a len := by
  rcases h with ⟨_, h, _⟩ | ⟨x, rfl, hl, hm, hz, hc, hw⟩
  · exact .inl h
  · rcases Nat.eq_zero_or_pos len with h0 | h0
    · exact .inl h0
    · obtain ⟨b, off, rfl, hc'⟩ := ints_at hc (show 0 < zs.length by omega)
      refine .inr ⟨b, off, rfl, fun i hi => ⟨zs.getD i 0, ?_, ?_, hc' i (by omega)⟩⟩
      all_goals
        have hm : zs.getD i 0 ∈ zs := by
          have hi2 : i < zs.length := by omega
          have e : zs.getD i 0 = zs[i] := by simp [hi2]
          rw [e]; exact List.getElem_mem hi2
        have h8 : 0 ≤ zs.getD i 0 ∧ zs.getD i 0 ≤ 255 := by simpa [Lit.wf, IntKind.min, IntKind.max, IntKind.signed, IntKind.bits] using hw _ hm
        omega

end Go.Proofs.YtknelhceaoblhaaDoor.Kit
