/- The small parts of this claim in one text: words on worlds, numbers, points, segments, tracks. -/
import Derived.Test.YtccggjhmnbebbaaRows
import Derived.WalkKit
import Derived.ProofKit
import Derived.OpenShut
import Derived.Lib.Hide
import Derived.ChangeOld
import Derived.Below
import Derived.Deep.Draws
import Derived.WalkSmall
import Derived.Deep.RegionHeld3
import Derived.Deep.QuietTactic
import Derived.BigQuiet
import Derived.Deep.LoopGhost
import Derived.OwnWalk
import Derived.Laws.OwnMore
import Derived.RegionTactic
import Derived.ChangeAlike
import Derived.IntWalk

/- Contracts of the functions on numbers of chapter 1 (impl and spec): what each call returns, as a plain Lean function; the world stays. -/
namespace Go.Proofs.Ytccggjhmnbebbaa.Num
open Go.ChangeShapes Go.WideShapes Go.ChangeAt Go.RowKit
set_option linter.unusedVariables false

theorem ret_int {k : IntKind} {a b : Int} (h : b = a) : Ending.returned (.int k a) = .returned (.int k b) := by rw [h]
theorem ret_bool {a b : Bool} (h : b = a) : Ending.returned (.bool a) = .returned (.bool b) := by rw [h]
theorem ret_int2 {k l : IntKind} {a b c d : Int} (h : b = a) (g : d = c) : Ending.returned (.tuple #[.int k a, .int l c]) = .returned (.tuple #[.int k b, .int l d]) := by rw [h, g]

def inB (n lo hi : Int) : Bool := decide (lo ≤ n ∧ n ≤ hi)
theorem inB_yes {n lo hi : Int} (h1 : lo ≤ n) (h2 : n ≤ hi) : inB n lo hi = true := by unfold inB; exact decide_eq_true ⟨h1, h2⟩
theorem inB_no {n lo hi : Int} (h : ¬ (lo ≤ n ∧ n ≤ hi)) : inB n lo hi = false := by unfold inB; exact decide_eq_false h
theorem of_inB {n lo hi : Int} (h : inB n lo hi = true) : lo ≤ n ∧ n ≤ hi := by unfold inB at h; exact of_decide_eq_true h
theorem not_inB {n lo hi : Int} (h : inB n lo hi = false) : n < lo ∨ hi < n := by unfold inB at h; have := of_decide_eq_false h; omega

theorem in_any (n lo hi : Int) (w : World) : Calls Try.prog 45 #[.int .i64 n, .int .i64 lo, .int .i64 hi] w fun e w' => e = .returned (.bool (inB n lo hi)) ∧ w = w' := by
  by_cases h1 : lo ≤ n
  · by_cases h2 : n ≤ hi
    · have H := Lib.hid (inB_yes h1 h2)
      go_enter Try.func45, Try.ntmps45
      go_wp2
      go_ret
      exact ⟨ret_bool H.out, rfl⟩
    · have H := Lib.hid (inB_no (lo := lo) (fun h => h2 h.2))
      go_enter Try.func45, Try.ntmps45
      go_wp2
      go_ret
      exact ⟨ret_bool H.out, rfl⟩
  · have H := Lib.hid (inB_no (hi := hi) (fun h => h1 h.1))
    go_enter Try.func45, Try.ntmps45
    go_wp2
    go_ret
    exact ⟨ret_bool H.out, rfl⟩

/-- The quotient, rounded down, as both programs reckon it. -/
def flo (a b : Int) : Int := if a.tmod b < 0 then a.tdiv b - 1 else a.tdiv b

theorem tdiv_bd {a b : Int} (hb : 1 ≤ b) (M : Int) (h1 : -M ≤ a) (h2 : a ≤ M) : -M ≤ a.tdiv b ∧ a.tdiv b ≤ M := by
  have h : (a.tdiv b).natAbs = a.natAbs / b.natAbs := Int.natAbs_tdiv a b
  have h3 : a.natAbs / b.natAbs ≤ a.natAbs := Nat.div_le_self _ _
  rw [← h] at h3
  omega

theorem floor_any (a b : Int) (w : World) (hb : 1 ≤ b) (h1 : -4000000000000000000 ≤ a) (h2 : a ≤ 4000000000000000000) : Calls Try.prog 71 #[.int .i64 a, .int .i64 b] w fun e w' => e = .returned (.int .i64 (flo a b)) ∧ w = w' := by
  obtain ⟨g1, g2⟩ := tdiv_bd hb 4000000000000000000 h1 h2
  by_cases hm : a.tmod b < 0
  · have H := Lib.hid (show flo a b = a.tdiv b - 1 from if_pos hm)
    go_enter Try.func71, Try.ntmps71
    go_wp2
    go_ret
    exact ⟨ret_int H.out, rfl⟩
  · have H := Lib.hid (show flo a b = a.tdiv b from if_neg hm)
    go_enter Try.func71, Try.ntmps71
    go_wp2
    go_ret
    exact ⟨ret_int H.out, rfl⟩

/-- What both FloorDivs answer: the quotient and the code. -/
def fdQ (a b : Int) : Int := if 1 ≤ b ∧ b ≤ 1000000000000000000 ∧ -1000000000000000000 ≤ a ∧ a ≤ 1000000000000000000 then flo a b else 0
def fdC (a b : Int) : Int := if 1 ≤ b ∧ b ≤ 1000000000000000000 ∧ -1000000000000000000 ≤ a ∧ a ≤ 1000000000000000000 then 0 else 2

end Go.Proofs.Ytccggjhmnbebbaa.Num

/- Words on worlds, of no program: what a call leaves of the memory that was there. -/
namespace Go.Proofs.Ytccggjhmnbebbaa.Kit
open Go.ChangeShapes Go.WideShapes Go.ChangeAt Go.RowKit

/-- The world w' is w with new blocks: nothing that was there is written. -/
def Ext (w w' : World) : Prop := Below w.heap.size w w'
theorem Ext.refl (w : World) : Ext w w := Below.refl _ _
theorem Ext.below {w w' : World} (h : Ext w w') : Below w.heap.size w w' := h
theorem Ext.size {w w' : World} (h : Ext w w') : w.heap.size ≤ w'.heap.size := Below.size h
theorem Ext.trans {a b c : World} (h : Ext a b) (k : Ext b c) : Ext a c := Below.trans h (Below.mono k h.size)
theorem Ext.alloc {a b : World} (h : Ext a b) (o : Obj) : Ext a (b.alloc o) := Below.alloc h h.size o
theorem Ext.drew {a b : World} (h : Ext a b) : Ext a b.drew := Below.drew h
theorem Ext.drewN {a b : World} (h : Ext a b) (n : Nat) : Ext a (b.drewN n) := below_drewN h n
theorem Ext.setNew {a b : World} (h : Ext a b) {p : Addr} (hp : a.heap.size ≤ p.block) (u : Value) : Ext a (b.setCell p u) := Below.setCell h hp u
/-- A cell that is there holds what it held. -/
theorem Ext.cellOf {w w' : World} (h : Ext w w') {a : Addr} {v : Value} (hc : w.cell? a = some v) : w'.cell? a = some v := by
  rw [Below.cell h (World.block_lt_of_cell? w _ hc)]; exact hc
theorem Ext.thawOf {w w' : World} (h : Ext w w') {a : Addr} {v : Value} (hc : w.cell? a = some v) (hf : w.frozen? a = false) : w'.frozen? a = false := by
  rw [Below.frozen h (World.block_lt_of_cell? w _ hc)]; exact hf
theorem boxed {w : World} {cs : Array Value} {t : TypeId} (i : Nat) {v : Value} (h : cs[i]? = some v) {n : Nat} (hn : w.heap.size = n) : (w.alloc (.cells cs t)).cell? ⟨n, i, none⟩ = some v := by
  rw [World.cell?_alloc_at cs t n i hn.symm]; exact h
theorem thawed {w : World} {cs : Array Value} {t : TypeId} (i : Nat) {n : Nat} (hn : w.heap.size = n) : (w.alloc (.cells cs t)).frozen? ⟨n, i, none⟩ = false := by
  subst hn; unfold World.frozen?; rw [show (w.alloc (.cells cs t)).heap[w.heap.size]? = _ from heap_alloc_new w _]; simp
theorem Ext.facts {W w1 : World} (hb : Ext W w1) : (∀ b o, b < W.heap.size → w1.cell? ⟨b, o, none⟩ = W.cell? ⟨b, o, none⟩) ∧ (∀ b o, b < W.heap.size → w1.frozen? ⟨b, o, none⟩ = W.frozen? ⟨b, o, none⟩) :=
  ⟨fun b o h => Below.cell hb (p := ⟨b, o, none⟩) h, fun b o h => Below.frozen hb (p := ⟨b, o, none⟩) h⟩

theorem boxes2 (w : World) (t : TypeId) (x y u v : Int) :
    (((w.alloc (.cells #[.int .i64 x, .int .i64 y] t)).alloc (.cells #[.int .i64 u, .int .i64 v] t)).cell? ⟨w.heap.size, 0, none⟩ = some (.int .i64 x)) ∧
    (((w.alloc (.cells #[.int .i64 x, .int .i64 y] t)).alloc (.cells #[.int .i64 u, .int .i64 v] t)).cell? ⟨w.heap.size, 1, none⟩ = some (.int .i64 y)) ∧
    (((w.alloc (.cells #[.int .i64 x, .int .i64 y] t)).alloc (.cells #[.int .i64 u, .int .i64 v] t)).cell? ⟨w.heap.size + 1, 0, none⟩ = some (.int .i64 u)) ∧
    (((w.alloc (.cells #[.int .i64 x, .int .i64 y] t)).alloc (.cells #[.int .i64 u, .int .i64 v] t)).cell? ⟨w.heap.size + 1, 1, none⟩ = some (.int .i64 v)) :=
  ⟨((Ext.refl _).alloc _).cellOf (boxed 0 rfl rfl), ((Ext.refl _).alloc _).cellOf (boxed 1 rfl rfl), boxed 0 rfl (by simp), boxed 1 rfl (by simp)⟩
theorem boxes3 (w : World) (t : TypeId) (x y u v a b : Int) :
    ((((w.alloc (.cells #[.int .i64 x, .int .i64 y] t)).alloc (.cells #[.int .i64 u, .int .i64 v] t)).alloc (.cells #[.int .i64 a, .int .i64 b] t)).cell? ⟨w.heap.size, 0, none⟩ = some (.int .i64 x)) ∧
    ((((w.alloc (.cells #[.int .i64 x, .int .i64 y] t)).alloc (.cells #[.int .i64 u, .int .i64 v] t)).alloc (.cells #[.int .i64 a, .int .i64 b] t)).cell? ⟨w.heap.size, 1, none⟩ = some (.int .i64 y)) ∧
    ((((w.alloc (.cells #[.int .i64 x, .int .i64 y] t)).alloc (.cells #[.int .i64 u, .int .i64 v] t)).alloc (.cells #[.int .i64 a, .int .i64 b] t)).cell? ⟨w.heap.size + 1, 0, none⟩ = some (.int .i64 u)) ∧
    ((((w.alloc (.cells #[.int .i64 x, .int .i64 y] t)).alloc (.cells #[.int .i64 u, .int .i64 v] t)).alloc (.cells #[.int .i64 a, .int .i64 b] t)).cell? ⟨w.heap.size + 1, 1, none⟩ = some (.int .i64 v)) ∧
    ((((w.alloc (.cells #[.int .i64 x, .int .i64 y] t)).alloc (.cells #[.int .i64 u, .int .i64 v] t)).alloc (.cells #[.int .i64 a, .int .i64 b] t)).cell? ⟨w.heap.size + 1 + 1, 0, none⟩ = some (.int .i64 a)) ∧
    ((((w.alloc (.cells #[.int .i64 x, .int .i64 y] t)).alloc (.cells #[.int .i64 u, .int .i64 v] t)).alloc (.cells #[.int .i64 a, .int .i64 b] t)).cell? ⟨w.heap.size + 1 + 1, 1, none⟩ = some (.int .i64 b)) :=
  ⟨(((Ext.refl _).alloc _).alloc _).cellOf (boxed 0 rfl rfl), (((Ext.refl _).alloc _).alloc _).cellOf (boxed 1 rfl rfl), ((Ext.refl _).alloc _).cellOf (boxed 0 rfl (by simp)), ((Ext.refl _).alloc _).cellOf (boxed 1 rfl (by simp)), boxed 0 rfl (by simp), boxed 1 rfl (by simp)⟩

/-- Nothing that was there is written but block B. -/
structure Chg (B : Nat) (w w' : World) : Prop where
  os : w'.os = w.os
  tape : w'.tape = w.tape
  output : w'.output = w.output
  size : w.heap.size ≤ w'.heap.size
  block : ∀ k, k < w.heap.size → k ≠ B → w'.heap[k]? = w.heap[k]?

theorem Chg.refl (B : Nat) (w : World) : Chg B w w := ⟨rfl, rfl, rfl, Nat.le_refl _, fun _ _ _ => rfl⟩
theorem Chg.trans {B : Nat} {a b c : World} (h : Chg B a b) (k : Chg B b c) : Chg B a c :=
  ⟨k.os.trans h.os, k.tape.trans h.tape, k.output.trans h.output, Nat.le_trans h.size k.size, fun i hi hB => (k.block i (Nat.lt_of_lt_of_le hi h.size) hB).trans (h.block i hi hB)⟩
theorem Chg.of_ext {B : Nat} {a b : World} (h : Ext a b) : Chg B a b := ⟨Below.os h, Below.tape h, Below.output h, Below.size h, fun i hi _ => Below.block h i hi⟩
theorem Chg.alloc {B : Nat} {a b : World} (h : Chg B a b) (o : Obj) : Chg B a (b.alloc o) := h.trans (Chg.of_ext ((Ext.refl b).alloc o))
theorem Chg.drew {B : Nat} {a b : World} (h : Chg B a b) : Chg B a b.drew := h.trans (Chg.of_ext ((Ext.refl b).drew))
theorem Chg.drewN {B : Nat} {a b : World} (h : Chg B a b) (n : Nat) : Chg B a (b.drewN n) := h.trans (Chg.of_ext ((Ext.refl b).drewN n))
theorem Chg.setCell {B : Nat} {a b : World} (h : Chg B a b) (o : Nat) (v : Value) : Chg B a (b.setCell ⟨B, o, none⟩ v) :=
  h.trans ⟨rfl, rfl, rfl, by simp [World.setCell], fun k _ hk => Below.heap_setCell _ _ _ _ hk⟩
/-- A store into a block that is new since a. -/
theorem Chg.setNew {B : Nat} {a b : World} (h : Chg B a b) {p : Addr} (hp : a.heap.size ≤ p.block) (v : Value) : Chg B a (b.setCell p v) :=
  ⟨h.os, h.tape, h.output, Nat.le_trans h.size (by simp [World.setCell]), fun k hk hB => (Below.heap_setCell b p v k (by omega)).trans (h.block k hk hB)⟩
theorem Chg.cellOf {B : Nat} {w w' : World} (h : Chg B w w') {a : Addr} {v : Value} (hB : a.block ≠ B) (hc : w.cell? a = some v) : w'.cell? a = some v := by
  rw [World.cell?_of_block (w := w) (h.block a.block (World.block_lt_of_cell? w _ hc) hB)]; exact hc
theorem Chg.frozenOf {B : Nat} {w w' : World} (h : Chg B w w') {a : Addr} (hB : a.block ≠ B) (hl : a.block < w.heap.size) : w'.frozen? a = w.frozen? a :=
  World.frozen?_of_block (w := w) (h.block a.block hl hB)
theorem Chg.thawOf {B : Nat} {w w' : World} (h : Chg B w w') {a : Addr} {v : Value} (hB : a.block ≠ B) (hc : w.cell? a = some v) (hf : w.frozen? a = false) : w'.frozen? a = false := by
  rw [h.frozenOf hB (World.block_lt_of_cell? w _ hc)]; exact hf
theorem Chg.facts {B : Nat} {w w' : World} (h : Chg B w w') : (∀ b o, b < w.heap.size → b ≠ B → w'.cell? ⟨b, o, none⟩ = w.cell? ⟨b, o, none⟩) ∧ (∀ b o, b < w.heap.size → b ≠ B → w'.frozen? ⟨b, o, none⟩ = w.frozen? ⟨b, o, none⟩) :=
  ⟨fun b _ h1 h2 => World.cell?_of_block (w := w) (h.block b h1 h2), fun b _ h1 h2 => World.frozen?_of_block (w := w) (h.block b h1 h2)⟩
/-- What writes no block but a new one writes nothing that was there. -/
theorem Chg.ext {B : Nat} {a b c : World} (h : Chg B b c) (k : Ext a b) (hB : a.heap.size ≤ B) : Ext a c :=
  ⟨h.os.trans (Below.os k), h.tape.trans (Below.tape k), h.output.trans (Below.output k), Nat.le_trans (Ext.size k) h.size, fun i hi => (h.block i (Nat.lt_of_lt_of_le hi (Ext.size k)) (by omega)).trans (Below.block k i hi)⟩

/-- What is told of a slice of integers that came in: nil, or a row of 'cap' cells, the numbers zs. -/
def IsRow (k : IntKind) (w : World) (a : Option Addr) (len cap : Nat) (zs : List Int) : Prop :=
  (a = none ∧ len = 0 ∧ cap = 0 ∧ zs = []) ∨
  ∃ x, a = some x ∧ len ≤ cap ∧ cap ≤ maxLen ∧ zs.length = cap ∧ (∀ i, i < zs.length → w.cell? (x.add i) = some (.int k (zs.getD i 0))) ∧ ∀ n ∈ zs, (Lit.int k n).wf = true

/-- A slice of bytes of a length that reads as letters. -/
def Bytes (w : World) (a : Option Addr) (len : Nat) : Prop :=
  len = 0 ∨ ∃ b off, a = some ⟨b, off, none⟩ ∧ ∀ i, i < len → ∃ z : Int, 0 ≤ z ∧ z ≤ 255 ∧ w.cell? ⟨b, off + i, none⟩ = some (.int .u8 z)

theorem Bytes.ext {w w' : World} {a : Option Addr} {len : Nat} (h : Bytes w a len) (k : Ext w w') : Bytes w' a len := by
  rcases h with h | ⟨b, off, ha, h⟩
  · exact .inl h
  · exact .inr ⟨b, off, ha, fun i hi => by obtain ⟨z, z0, z1, hz⟩ := h i hi; exact ⟨z, z0, z1, k.cellOf hz⟩⟩

theorem IsRow.bytes {w : World} {a : Option Addr} {len cap : Nat} {zs : List Int} (h : IsRow .u8 w a len cap zs) : Bytes w a len := by
  rcases h with ⟨_, h, _⟩ | ⟨x, rfl, hl, hm, hz, hc, hw⟩
  · exact .inl h
  · rcases Nat.eq_zero_or_pos len with h0 | h0
    · exact .inl h0
    · obtain ⟨b, off, rfl, hc'⟩ := ints_at hc (show 0 < zs.length by omega)
      refine .inr ⟨b, off, rfl, fun i hi => ⟨zs.getD i 0, ?_, ?_, hc' i (by omega)⟩⟩
      all_goals
        have hm : zs.getD i 0 ∈ zs := by
          have hi2 : i < zs.length := by omega
          have e : zs.getD i 0 = zs[i] := by simp [hi2]
          rw [e]; exact List.getElem_mem hi2
        have h8 : 0 ≤ zs.getD i 0 ∧ zs.getD i 0 ≤ 255 := by simpa [Lit.wf, IntKind.min, IntKind.max, IntKind.signed, IntKind.bits] using hw _ hm
        omega

end Go.Proofs.Ytccggjhmnbebbaa.Kit

/- Contracts of the functions on points of chapter 1 (impl and spec): what each call returns, as a plain Lean function; nothing that was there is written. -/
namespace Go.Proofs.Ytccggjhmnbebbaa.Pts
open Go.ChangeShapes Go.WideShapes Go.ChangeAt Go.RowKit
open Go.Proofs.Ytccggjhmnbebbaa.Num Go.Proofs.Ytccggjhmnbebbaa.Kit
set_option linter.unusedVariables false

abbrev Pt (x y : Int) : Value := .agg #[.int .i64 x, .int .i64 y]

/-- Is a coordinate valid? -/
def coB (n : Int) : Bool := inB n (-1000000) 1000000
/-- Is a point valid? -/
def ptB (x y : Int) : Bool := coB x && coB y
theorem ptB_yes {x y : Int} (h : ptB x y = true) : (-1000000 ≤ x ∧ x ≤ 1000000) ∧ -1000000 ≤ y ∧ y ≤ 1000000 := by
  unfold ptB coB at h; rw [Bool.and_eq_true] at h; exact ⟨of_inB h.1, of_inB h.2⟩

theorem isCoord_any (n : Int) (w : World) : Calls Try.prog 51 #[.int .i64 n] w fun e w' => e = .returned (.bool (coB n)) ∧ w = w' := by
  by_cases h1 : -1000000 ≤ n
  · by_cases h2 : n ≤ 1000000
    · have H := Lib.hid (show coB n = true from inB_yes h1 h2)
      go_enter Try.func51, Try.ntmps51
      go_wp2
      go_ret
      exact ⟨ret_bool H.out, rfl⟩
    · have H := Lib.hid (show coB n = false from inB_no (fun h => h2 h.2))
      go_enter Try.func51, Try.ntmps51
      go_wp2
      go_ret
      exact ⟨ret_bool H.out, rfl⟩
  · have H := Lib.hid (show coB n = false from inB_no (fun h => h1 h.1))
    go_enter Try.func51, Try.ntmps51
    go_wp2
    go_ret
    exact ⟨ret_bool H.out, rfl⟩

theorem isValid_any (x y : Int) (w : World) : Calls Try.prog 28 #[Pt x y] w fun e w' => e = .returned (.bool (ptB x y)) ∧ Ext w w' := by
  cases hx : coB x
  · have H := Lib.hid (show ptB x y = false by unfold ptB; rw [hx]; rfl)
    go_enter Try.func28, Try.ntmps28
    go_wp2_with (go_at_call 51; refine (isCoord_any _ _).mono ?_; rintro e w' ⟨rfl, rfl⟩)
    go_ret
    exact ⟨ret_bool H.out, (by repeat (first | exact Ext.refl _ | assumption | apply Ext.alloc | apply Ext.drew | (refine Ext.trans ?_ (by assumption)) | (refine Ext.setNew ?_ (by simp <;> omega) _)))⟩
  · have H := Lib.hid (show ptB x y = coB y by unfold ptB; rw [hx]; rfl)
    go_enter Try.func28, Try.ntmps28
    go_wp2_with (go_at_call 51; refine (isCoord_any _ _).mono ?_; rintro e w' ⟨rfl, rfl⟩)
    go_ret
    exact ⟨ret_bool H.out, (by repeat (first | exact Ext.refl _ | assumption | apply Ext.alloc | apply Ext.drew | (refine Ext.trans ?_ (by assumption)) | (refine Ext.setNew ?_ (by simp <;> omega) _)))⟩
theorem isPoint_spec (x y : Int) (w : World) : Calls Try.prog 46 #[Pt x y] w fun e w' => e = .returned (.bool (ptB x y)) ∧ Ext w w' := by
  cases hx : inB x (-1000000) 1000000
  · have H := Lib.hid (show ptB x y = false by unfold ptB coB; rw [hx]; rfl)
    go_enter Try.func46, Try.ntmps46
    go_wp2_with (go_at_call 45; refine (in_any _ _ _ _).mono ?_; rintro e w' ⟨rfl, rfl⟩)
    go_ret
    exact ⟨ret_bool H.out, (by repeat (first | exact Ext.refl _ | assumption | apply Ext.alloc | apply Ext.drew | (refine Ext.trans ?_ (by assumption)) | (refine Ext.setNew ?_ (by simp <;> omega) _)))⟩
  · have H := Lib.hid (show ptB x y = inB y (-1000000) 1000000 by unfold ptB coB; rw [hx]; rfl)
    go_enter Try.func46, Try.ntmps46
    go_wp2_with (go_at_call 45; refine (in_any _ _ _ _).mono ?_; rintro e w' ⟨rfl, rfl⟩)
    go_ret
    exact ⟨ret_bool H.out, (by repeat (first | exact Ext.refl _ | assumption | apply Ext.alloc | apply Ext.drew | (refine Ext.trans ?_ (by assumption)) | (refine Ext.setNew ?_ (by simp <;> omega) _)))⟩

/-- The two coordinates of a vector between valid points. -/
theorem vectorTo_any (x y u v : Int) (w : World) (hx : -1000000 ≤ x ∧ x ≤ 1000000) (hy : -1000000 ≤ y ∧ y ≤ 1000000) (hu : -1000000 ≤ u ∧ u ≤ 1000000) (hv : -1000000 ≤ v ∧ v ≤ 1000000) :
    Calls Try.prog 95 #[Pt x y, Pt u v] w fun e w' => e = .returned (Pt (u - x) (v - y)) ∧ Ext w w' := by
  go_enter Try.func95, Try.ntmps95
  go_wp2
  exact bodyPost_ret (v := Pt (u - x) (v - y)) (by simp [results, Try.results95, go_sem]) rfl ⟨rfl, (by repeat (first | exact Ext.refl _ | assumption | apply Ext.alloc | apply Ext.drew | (refine Ext.trans ?_ (by assumption)) | (refine Ext.setNew ?_ (by simp <;> omega) _)))⟩


theorem mul_bd {x y : Int} (A B : Int) (hx : -A ≤ x ∧ x ≤ A) (hy : -B ≤ y ∧ y ≤ B) : -(A * B) ≤ x * y ∧ x * y ≤ A * B := by
  have hA : 0 ≤ A := by omega
  have hB : 0 ≤ B := by omega
  have h : (x * y).natAbs ≤ A.natAbs * B.natAbs := by
    rw [Int.natAbs_mul]; exact Nat.mul_le_mul (by omega) (by omega)
  have h2 : ((A.natAbs * B.natAbs : Nat) : Int) = A * B := by
    rw [Int.natCast_mul, Int.natAbs_of_nonneg hA, Int.natAbs_of_nonneg hB]
  omega

theorem cross_any (x y u v : Int) (w : World) (hx : -2000000 ≤ x ∧ x ≤ 2000000) (hy : -2000000 ≤ y ∧ y ≤ 2000000) (hu : -2000000 ≤ u ∧ u ≤ 2000000) (hv : -2000000 ≤ v ∧ v ≤ 2000000) :
    Calls Try.prog 94 #[Pt x y, Pt u v] w fun e w' => e = .returned (.int .i64 (x * v - y * u)) ∧ Ext w w' := by
  obtain ⟨a1, a2⟩ := mul_bd 2000000 2000000 hx hv
  obtain ⟨b1, b2⟩ := mul_bd 2000000 2000000 hy hu
  simp only [Int.reduceMul, Int.reduceNeg] at a1 a2 b1 b2
  go_enter Try.func94, Try.ntmps94
  go_wp2
  go_ret
  exact ⟨rfl, (by repeat (first | exact Ext.refl _ | assumption | apply Ext.alloc | apply Ext.drew | (refine Ext.trans ?_ (by assumption)) | (refine Ext.setNew ?_ (by simp <;> omega) _)))⟩

/-- The sign of a number. -/
def sgn (n : Int) : Int := if n < 0 then -1 else if 0 < n then 1 else 0

theorem signOf_any (n : Int) (w : World) : Calls Try.prog 67 #[.int .i64 n] w fun e w' => e = .returned (.int .i64 (sgn n)) ∧ w = w' := by
  by_cases h1 : n < 0
  · have H := Lib.hid (show sgn n = -1 by unfold sgn; rw [if_pos h1])
    go_enter Try.func67, Try.ntmps67
    go_wp2
    go_ret
    exact ⟨ret_int H.out, rfl⟩
  · by_cases h2 : 0 < n
    · have H := Lib.hid (show sgn n = 1 by unfold sgn; rw [if_neg h1, if_pos h2])
      go_enter Try.func67, Try.ntmps67
      go_wp2
      go_ret
      exact ⟨ret_int H.out, rfl⟩
    · have H := Lib.hid (show sgn n = 0 by unfold sgn; rw [if_neg h1, if_neg h2])
      go_enter Try.func67, Try.ntmps67
      go_wp2
      go_ret
      exact ⟨ret_int H.out, rfl⟩

/-- The square of the distance of two points. -/
def sqD (x y u v : Int) : Int := (u - x) * (u - x) + (v - y) * (v - y)
def sdQ (x y u v : Int) : Int := if ptB x y = true ∧ ptB u v = true then sqD x y u v else 0
def sdC (x y u v : Int) : Int := if ptB x y = true ∧ ptB u v = true then 0 else 1

/-- On which side of the line from (x, y) to (u, v) the point (a, b) is. -/
def trn (x y u v a b : Int) : Int := sgn ((u - x) * (b - y) - (v - y) * (a - x))
def tuQ (x y u v a b : Int) : Int := if ptB x y = true ∧ ptB u v = true ∧ ptB a b = true then trn x y u v a b else 0
def tuC (x y u v a b : Int) : Int := if ptB x y = true ∧ ptB u v = true ∧ ptB a b = true then 0 else 1

/-! ### spec -/
theorem minus_any (x y u v : Int) (w : World) (hx : -1000000 ≤ x ∧ x ≤ 1000000) (hy : -1000000 ≤ y ∧ y ≤ 1000000) (hu : -1000000 ≤ u ∧ u ≤ 1000000) (hv : -1000000 ≤ v ∧ v ≤ 1000000) :
    Calls Try.prog 76 #[Pt x y, Pt u v] w fun e w' => e = .returned (Pt (x - u) (y - v)) ∧ Ext w w' := by
  go_enter Try.func76, Try.ntmps76
  go_wp2
  exact bodyPost_ret (v := Pt (x - u) (y - v)) (by simp [results, Try.results76, go_sem]) rfl ⟨rfl, (by repeat (first | exact Ext.refl _ | assumption | apply Ext.alloc | apply Ext.drew | (refine Ext.trans ?_ (by assumption)) | (refine Ext.setNew ?_ (by simp <;> omega) _)))⟩

theorem crossS_any (x y u v : Int) (w : World) (hx : -2000000 ≤ x ∧ x ≤ 2000000) (hy : -2000000 ≤ y ∧ y ≤ 2000000) (hu : -2000000 ≤ u ∧ u ≤ 2000000) (hv : -2000000 ≤ v ∧ v ≤ 2000000) :
    Calls Try.prog 75 #[Pt x y, Pt u v] w fun e w' => e = .returned (.int .i64 (x * v - y * u)) ∧ Ext w w' := by
  obtain ⟨a1, a2⟩ := mul_bd 2000000 2000000 hx hv
  obtain ⟨b1, b2⟩ := mul_bd 2000000 2000000 hy hu
  simp only [Int.reduceMul, Int.reduceNeg] at a1 a2 b1 b2
  go_enter Try.func75, Try.ntmps75
  go_wp2
  go_ret
  exact ⟨rfl, (by repeat (first | exact Ext.refl _ | assumption | apply Ext.alloc | apply Ext.drew | (refine Ext.trans ?_ (by assumption)) | (refine Ext.setNew ?_ (by simp <;> omega) _)))⟩

theorem sign_any (n : Int) (w : World) : Calls Try.prog 68 #[.int .i64 n] w fun e w' => e = .returned (.int .i64 (sgn n)) ∧ w = w' := by
  by_cases h1 : n < 0
  · have H := Lib.hid (show sgn n = -1 by unfold sgn; rw [if_pos h1])
    go_enter Try.func68, Try.ntmps68
    go_wp2
    go_ret
    exact ⟨ret_int H.out, rfl⟩
  · by_cases h2 : 0 < n
    · have H := Lib.hid (show sgn n = 1 by unfold sgn; rw [if_neg h1, if_pos h2])
      go_enter Try.func68, Try.ntmps68
      go_wp2
      go_ret
      exact ⟨ret_int H.out, rfl⟩
    · have H := Lib.hid (show sgn n = 0 by unfold sgn; rw [if_neg h1, if_neg h2])
      go_enter Try.func68, Try.ntmps68
      go_wp2
      go_ret
      exact ⟨ret_int H.out, rfl⟩

theorem sqD_eq (x y u v : Int) : sqD x y u v = (x - u) * (x - u) + (y - v) * (y - v) := by
  have h : ∀ a b : Int, (a - b) * (a - b) = (b - a) * (b - a) := fun a b => by rw [← Int.neg_sub b a, Int.neg_mul_neg]
  unfold sqD; rw [h u x, h v y]

theorem turn_any (x y u v a b : Int) (w : World) (hx : -1000000 ≤ x ∧ x ≤ 1000000) (hy : -1000000 ≤ y ∧ y ≤ 1000000) (hu : -1000000 ≤ u ∧ u ≤ 1000000) (hv : -1000000 ≤ v ∧ v ≤ 1000000) (ha : -1000000 ≤ a ∧ a ≤ 1000000) (hb : -1000000 ≤ b ∧ b ≤ 1000000) :
    Calls Try.prog 74 #[Pt x y, Pt u v, Pt a b] w fun e w' => e = .returned (.int .i64 (trn x y u v a b)) ∧ Ext w w' := by
  go_enter Try.func74, Try.ntmps74
  go_wp2_with fail
  obtain ⟨c1, c2, c3, c4, c5, c6⟩ := boxes3 w 28 x y u v a b
  go_region_held3 (fun w' => w'.cell? ⟨w.heap.size, 0, none⟩ = some (.int .i64 x) ∧ w'.cell? ⟨w.heap.size, 1, none⟩ = some (.int .i64 y) ∧ w'.cell? ⟨w.heap.size + 1, 0, none⟩ = some (.int .i64 u) ∧ w'.cell? ⟨w.heap.size + 1, 1, none⟩ = some (.int .i64 v) ∧ w'.cell? ⟨w.heap.size + 1 + 1, 0, none⟩ = some (.int .i64 a) ∧ w'.cell? ⟨w.heap.size + 1 + 1, 1, none⟩ = some (.int .i64 b))
    (first | exact ⟨c1, c2, c3, c4, c5, c6⟩ | (go_split_ands; refine ⟨?_, ?_, ?_, ?_, ?_, ?_⟩ <;> first | assumption | exact Ext.cellOf hx (by assumption)))
    (first | (go_at_call 76; refine (minus_any _ _ _ _ _ (by omega) (by omega) (by omega) (by omega)).mono ?_; rintro e w1 ⟨rfl, hx⟩) | (go_at_call 75; refine (crossS_any _ _ _ _ _ (by omega) (by omega) (by omega) (by omega)).mono ?_; rintro e w1 ⟨rfl, hx⟩) | (go_at_call 68; refine (sign_any _ _).mono ?_; rintro e w1 ⟨rfl, rfl⟩))
  all_goals
    go_wp2
    go_ret
    exact ⟨ret_int rfl, (by repeat (first | exact Ext.refl _ | assumption | apply Ext.alloc | apply Ext.drew | (refine Ext.trans ?_ (by assumption)) | (refine Ext.setNew ?_ (by simp <;> omega) _)))⟩

/-! ### laws -/
end Go.Proofs.Ytccggjhmnbebbaa.Pts

/- Words on blocks of cells, of no program: a box that may be written, and what is left of it behind a call or a store. -/
namespace Go.Proofs.Ytccggjhmnbebbaa.Kit
open Go.ChangeShapes Go.WideShapes Go.ChangeAt Go.RowKit

/-- Block n holds the values vs, and may be written. -/
def Box (w : World) (n : Nat) (vs : List Value) : Prop := ∀ i v, vs[i]? = some v → w.cell? ⟨n, i, none⟩ = some v ∧ w.frozen? ⟨n, i, none⟩ = false

theorem Box.new {w : World} {vs : List Value} {t : TypeId} {n : Nat} (hn : w.heap.size = n) : Box (w.alloc (.cells vs.toArray t)) n vs :=
  fun i v h => ⟨boxed i (by simpa using h) hn, thawed i hn⟩
theorem Box.new2 {w : World} {x y : Value} {t : TypeId} {n : Nat} (hn : w.heap.size = n) : Box (w.alloc (.cells #[x, y] t)) n [x, y] := Box.new hn
theorem Box.new4 {w : World} {x y z u : Value} {t : TypeId} {n : Nat} (hn : w.heap.size = n) : Box (w.alloc (.cells #[x, y, z, u] t)) n [x, y, z, u] := Box.new hn
theorem Box.ext {w w' : World} {n : Nat} {vs : List Value} (h : Box w n vs) (k : Ext w w') : Box w' n vs :=
  fun i v hv => ⟨k.cellOf (h i v hv).1, k.thawOf (h i v hv).1 (h i v hv).2⟩
theorem Box.chg {w w' : World} {n B : Nat} {vs : List Value} (h : Box w n vs) (k : Chg B w w') (hB : n ≠ B) : Box w' n vs :=
  fun i v hv => ⟨k.cellOf hB (h i v hv).1, k.thawOf hB (h i v hv).1 (h i v hv).2⟩
theorem Box.alloc {w : World} {n : Nat} {vs : List Value} (h : Box w n vs) (o : Obj) : Box (w.alloc o) n vs := h.ext ((Ext.refl w).alloc o)
theorem Box.drew {w : World} {n : Nat} {vs : List Value} (h : Box w n vs) : Box w.drew n vs := h.ext (Ext.refl w).drew
theorem Box.drewN {w : World} {n : Nat} {vs : List Value} (h : Box w n vs) (k : Nat) : Box (w.drewN k) n vs := h.ext ((Ext.refl w).drewN k)
theorem Box.away {w : World} {n : Nat} {vs : List Value} (h : Box w n vs) {p : Addr} (hp : p.block ≠ n) (u : Value) : Box (w.setCell p u) n vs :=
  fun i v hv => ⟨by rw [World.cell?_setCell_other _ _ _ _ (fun he => hp (by rw [he]))]; exact (h i v hv).1, by rw [World.frozen?_setCell]; exact (h i v hv).2⟩
theorem Box.set {w : World} {n : Nat} {vs : List Value} (h : Box w n vs) (i : Nat) (hi : i < vs.length) (u : Value) : Box (w.setCell ⟨n, i, none⟩ u) n (vs.set i u) := by
  intro j v hv
  rw [List.getElem?_set] at hv
  by_cases hj : i = j
  · subst hj
    rw [if_pos rfl, if_pos hi] at hv
    cases hv
    exact ⟨World.cell?_setCell_same _ _ _ (h i _ (List.getElem?_eq_getElem hi)).1, by rw [World.frozen?_setCell]; exact (h i _ (List.getElem?_eq_getElem hi)).2⟩
  · rw [if_neg hj] at hv
    exact ⟨by rw [World.cell?_setCell_other _ _ _ _ (by simp)]; exact (h j v hv).1, by rw [World.frozen?_setCell]; exact (h j v hv).2⟩
theorem Box.set2 {w : World} {n : Nat} {x y u v : Value} (h : Box w n [x, y]) : Box ((w.setCell ⟨n, 0, none⟩ u).setCell ⟨n, 1, none⟩ v) n [u, v] := (h.set 0 (by simp) u).set 1 (by simp) v
theorem Box.set4 {w : World} {n : Nat} {x y z r a b c d : Value} (h : Box w n [x, y, z, r]) : Box ((((w.setCell ⟨n, 0, none⟩ a).setCell ⟨n, 1, none⟩ b).setCell ⟨n, 2, none⟩ c).setCell ⟨n, 3, none⟩ d) n [a, b, c, d] :=
  (((h.set 0 (by simp) a).set 1 (by simp) b).set 2 (by simp) c).set 3 (by simp) d
theorem Box.away2 {w : World} {n m i j : Nat} {vs : List Value} {u v : Value} (h : Box w n vs) (hm : m ≠ n) : Box ((w.setCell ⟨m, i, none⟩ u).setCell ⟨m, j, none⟩ v) n vs := (h.away hm u).away hm v
theorem Box.two {w : World} {n : Nat} {x y : Value} (h : Box w n [x, y]) : (w.cell? ⟨n, 0, none⟩ = some x ∧ w.cell? ⟨n, 1, none⟩ = some y) ∧ w.frozen? ⟨n, 0, none⟩ = false ∧ w.frozen? ⟨n, 1, none⟩ = false :=
  ⟨⟨(h 0 x rfl).1, (h 1 y rfl).1⟩, (h 0 x rfl).2, (h 1 y rfl).2⟩
theorem Box.four {w : World} {n : Nat} {x y z u : Value} (h : Box w n [x, y, z, u]) : (w.cell? ⟨n, 0, none⟩ = some x ∧ w.cell? ⟨n, 1, none⟩ = some y ∧ w.cell? ⟨n, 2, none⟩ = some z ∧ w.cell? ⟨n, 3, none⟩ = some u) ∧
    w.frozen? ⟨n, 0, none⟩ = false ∧ w.frozen? ⟨n, 1, none⟩ = false ∧ w.frozen? ⟨n, 2, none⟩ = false ∧ w.frozen? ⟨n, 3, none⟩ = false :=
  ⟨⟨(h 0 x rfl).1, (h 1 y rfl).1, (h 2 z rfl).1, (h 3 u rfl).1⟩, (h 0 x rfl).2, (h 1 y rfl).2, (h 2 z rfl).2, (h 3 u rfl).2⟩
theorem Box.lt {w : World} {n : Nat} {x : Value} {vs : List Value} (h : Box w n (x :: vs)) : n < w.heap.size := World.block_lt_of_cell? w _ (h 0 x rfl).1

theorem drew_size (w : World) : w.drew.heap.size = w.heap.size := rfl
/-- A pair of numbers that was made new ahead of a call. -/
theorem Ext.newBox {X w1 : World} {t : TypeId} {x y : Value} (h : Ext (X.alloc (.cells #[x, y] t)) w1) {m : Nat} (hm : m ≤ X.heap.size) : Box w1 X.heap.size [x, y] ∧ m ≤ X.heap.size := ⟨(Box.new2 rfl).ext h, hm⟩

end Go.Proofs.Ytccggjhmnbebbaa.Kit

/- Rows of fixes in memory, and the contracts of the conversions and comparisons of tracks that the exact laws use. -/
namespace Go.Proofs.Ytccggjhmnbebbaa.Trk
open Go.ChangeShapes Go.WideShapes Go.ChangeAt Go.RowKit
open Go.Proofs.Ytccggjhmnbebbaa.Num Go.Proofs.Ytccggjhmnbebbaa.Kit Go.Proofs.Ytccggjhmnbebbaa.Pts
set_option linter.unusedVariables false
set_option linter.unusedSimpArgs false

/-- A fix: its time and its point. -/
structure F3 where
  t : Int
  x : Int
  y : Int
deriving DecidableEq

abbrev Fx (t x y : Int) : Value := .agg #[.int .i64 t, .int .i64 x, .int .i64 y]
abbrev Tr (s : Value) : Value := .agg #[s]

/-- The fix number i of a list. -/
def fx (fs : List F3) (i : Nat) : F3 := fs.getD i ⟨0, 0, 0⟩

/-- Three cells from an address on hold a fix. -/
def At (w : World) (b o : Nat) (f : F3) : Prop := w.cell? ⟨b, o, none⟩ = some (.int .i64 f.t) ∧ w.cell? ⟨b, o + 1, none⟩ = some (.int .i64 f.x) ∧ w.cell? ⟨b, o + 2, none⟩ = some (.int .i64 f.y)
theorem At.ext {w w' : World} {b o : Nat} {f : F3} (h : At w b o f) (k : Ext w w') : At w' b o f := ⟨k.cellOf h.1, k.cellOf h.2.1, k.cellOf h.2.2⟩

/-- A slice that reads as a list of fixes. -/
def Fxs (w : World) (a : Option Addr) (fs : List F3) : Prop :=
  fs.length ≤ maxLen ∧ (fs = [] ∨ ∃ b off, a = some ⟨b, off, none⟩ ∧ ∀ i, i < fs.length → At w b (off + i * 3) (fx fs i))
theorem Fxs.ext {w w' : World} {a : Option Addr} {fs : List F3} (h : Fxs w a fs) (k : Ext w w') : Fxs w' a fs := by
  refine ⟨h.1, ?_⟩
  rcases h.2 with h | ⟨b, off, ha, h⟩
  · exact .inl h
  · exact .inr ⟨b, off, ha, fun i hi => (h i hi).ext k⟩

/-- Block B holds the fixes of a list one behind the other, and may be written. -/
def Own (w : World) (B : Nat) (fs : List F3) : Prop := ∀ i, i < fs.length → At w B (i * 3) (fx fs i) ∧ w.frozen? ⟨B, i * 3, none⟩ = false ∧ w.frozen? ⟨B, i * 3 + 1, none⟩ = false ∧ w.frozen? ⟨B, i * 3 + 2, none⟩ = false

/-- What is left of a bound behind a slice's length. -/
def szL (m : Int) (len : Nat) : Int := if m - len < 0 then -1 else m - len
theorem szL_neg {m : Int} {len : Nat} (h : m - len < 0) : szL m len = -1 := if_pos h
theorem szL_pos {m : Int} {len : Nat} (h : ¬ m - len < 0) : szL m len = m - len := if_neg h

/-- Are two fixes equal? -/
def eqF (f g : F3) : Bool := (f.t == g.t) && ((f.x == g.x) && (f.y == g.y))

/-- What toFixS leaves: a new row of the same fixes. -/
def NewF (w : World) (fs : List F3) (e : Ending) (w' : World) : Prop := ∃ B, e = .returned (.slice (some ⟨B, 0, none⟩) fs.length fs.length) ∧ w.heap.size ≤ B ∧ Own w' B fs ∧ Ext w w'

/-- What its loop keeps: the block's cells are there and may be written; the first fixes are copied. -/
def RelT (w : World) (fs : List F3) (i : Value) (wr : World) : Prop :=
  ∃ k : Nat, i = .int .i64 k ∧ k ≤ fs.length ∧ (∀ j, j < fs.length * 3 → (∃ v, wr.cell? ⟨w.heap.size, j, none⟩ = some v) ∧ wr.frozen? ⟨w.heap.size, j, none⟩ = false) ∧ (∀ j, j < k → At wr w.heap.size (j * 3) (fx fs j)) ∧ Ext w wr

theorem RelT.step {w wr w2 : World} {fs : List F3} {k : Nat} (hk : k < fs.length) (hc : ∀ j, j < fs.length * 3 → (∃ v, wr.cell? ⟨w.heap.size, j, none⟩ = some v) ∧ wr.frozen? ⟨w.heap.size, j, none⟩ = false)
    (hd : ∀ j, j < k → At wr w.heap.size (j * 3) (fx fs j)) (hx : Ext w wr) (hy : Ext wr w2) :
    RelT w fs (.int .i64 (k + 1)) (((w2.setCell ⟨w.heap.size, k * 3, none⟩ (.int .i64 (fx fs k).t)).setCell ⟨w.heap.size, k * 3 + 1, none⟩ (.int .i64 (fx fs k).x)).setCell ⟨w.heap.size, k * 3 + 2, none⟩ (.int .i64 (fx fs k).y)) := by
  obtain ⟨⟨v0, d0⟩, f0⟩ := hc (k * 3) (by omega)
  obtain ⟨⟨v1, d1⟩, f1⟩ := hc (k * 3 + 1) (by omega)
  obtain ⟨⟨v2, d2⟩, f2⟩ := hc (k * 3 + 2) (by omega)
  have other : ∀ (W : World) (p q : Nat) (u : Value), p ≠ q → (W.setCell ⟨w.heap.size, p, none⟩ u).cell? ⟨w.heap.size, q, none⟩ = W.cell? ⟨w.heap.size, q, none⟩ := fun W p q u h => World.cell?_setCell_other _ _ _ _ (by simp <;> omega)
  refine ⟨k + 1, by go_num, by omega, fun j hj => ?_, fun j hj => ?_, ?_⟩
  · obtain ⟨⟨v, hv⟩, hf⟩ := hc j hj
    refine ⟨?_, by simp only [World.frozen?_setCell]; exact hy.thawOf hv hf⟩
    by_cases h2 : k * 3 + 2 = j
    · subst h2; exact ⟨_, World.cell?_setCell_same _ _ _ (by rw [other _ _ _ _ (by omega), other _ _ _ _ (by omega)]; exact hy.cellOf d2)⟩
    · rw [other _ _ _ _ h2]
      by_cases h1 : k * 3 + 1 = j
      · subst h1; exact ⟨_, World.cell?_setCell_same _ _ _ (by rw [other _ _ _ _ (by omega)]; exact hy.cellOf d1)⟩
      · rw [other _ _ _ _ h1]
        by_cases h0 : k * 3 = j
        · subst h0; exact ⟨_, World.cell?_setCell_same _ _ _ (hy.cellOf d0)⟩
        · rw [other _ _ _ _ h0]; exact ⟨_, hy.cellOf hv⟩
  · by_cases h : j = k
    · subst h
      refine ⟨?_, ?_, ?_⟩
      · rw [other _ _ _ _ (by omega), other _ _ _ _ (by omega)]; exact World.cell?_setCell_same _ _ _ (hy.cellOf d0)
      · rw [other _ _ _ _ (by omega)]; exact World.cell?_setCell_same _ _ _ (by rw [other _ _ _ _ (by omega)]; exact hy.cellOf d1)
      · exact World.cell?_setCell_same _ _ _ (by rw [other _ _ _ _ (by omega), other _ _ _ _ (by omega)]; exact hy.cellOf d2)
    · obtain ⟨g0, g1, g2⟩ := (hd j (by omega)).ext hy
      refine ⟨?_, ?_, ?_⟩
      all_goals
        rw [other _ _ _ _ (by omega), other _ _ _ _ (by omega), other _ _ _ _ (by omega)]; assumption
  · exact (((hx.trans hy).setNew (Nat.le_refl _) _).setNew (Nat.le_refl _) _).setNew (Nat.le_refl _) _

theorem fixInfo : (Try.prog.info? 38).map (fun i => (i.zero, i.size, i.bytes)) = some (some (Fx 0 0 0), 3, 24) := by kernel_rfl

theorem Ext.grown {w w' : World} (h : w.grownBy w' none) : Ext w w' := by
  obtain ⟨h1, h2, h3, h4, h5⟩ := h
  exact ⟨h1, h2, h3, h4, fun i hi => h5 i hi (by simp)⟩

theorem madeAt {w' : World} {e : TypeId} {n b g : Nat} {z : Value} (h : w'.ownsRow b e 3 (.slice (some ⟨g, 0, none⟩) n n) n (madeCells z.cells (n * 3)).toList) (j : Nat) (hj : j < n * 3) :
    (∃ v, w'.cell? ⟨g, j, none⟩ = some v) ∧ w'.frozen? ⟨g, j, none⟩ = false := by
  refine ⟨?_, h.frozenAt j⟩
  rw [h.cellAt j hj]
  exact ⟨_, List.getElem?_eq_getElem (by simpa [size_madeCells] using hj)⟩

/-- What toTrack leaves: a track with a new row of the same fixes. -/
def NewT (w : World) (fs : List F3) (e : Ending) (w' : World) : Prop := ∃ B, e = .returned (Tr (.slice (some ⟨B, 0, none⟩) fs.length fs.length)) ∧ w.heap.size ≤ B ∧ Own w' B fs ∧ Ext w w'

theorem Own.ext {w w' : World} {B : Nat} {fs : List F3} (h : Own w B fs) (k : Ext w w') : Own w' B fs :=
  fun i hi => ⟨(h i hi).1.ext k, k.thawOf (h i hi).1.1 (h i hi).2.1, k.thawOf (h i hi).1.2.1 (h i hi).2.2.1, k.thawOf (h i hi).1.2.2 (h i hi).2.2.2⟩
theorem Own.fxs {w : World} {B : Nat} {fs : List F3} (h : Own w B fs) (hl : fs.length ≤ maxLen) : Fxs w (some ⟨B, 0, none⟩) fs :=
  ⟨hl, .inr ⟨B, 0, rfl, fun i hi => by rw [Nat.zero_add]; exact (h i hi).1⟩⟩

theorem Own.away {w w' : World} {B n : Nat} {fs : List F3} (h : Own w B fs) (k : Chg n w w') (hn : B ≠ n) : Own w' B fs :=
  fun i hi => ⟨⟨k.cellOf hn (h i hi).1.1, k.cellOf hn (h i hi).1.2.1, k.cellOf hn (h i hi).1.2.2⟩, k.thawOf hn (h i hi).1.1 (h i hi).2.1, k.thawOf hn (h i hi).1.2.1 (h i hi).2.2.1, k.thawOf hn (h i hi).1.2.2 (h i hi).2.2.2⟩

/-- What eqFixS keeps. -/
def RelE (w : World) (n : Nat) (i : Value) (wr : World) : Prop := ∃ k : Nat, i = .int .i64 k ∧ k ≤ n ∧ Ext w wr

theorem eqF_refl (f : F3) : eqF ⟨f.t, f.x, f.y⟩ ⟨f.t, f.x, f.y⟩ = true := by simp [eqF]
end Go.Proofs.Ytccggjhmnbebbaa.Trk

/- Words on a result's box that is written while a region draws its order, of no program. -/
namespace Go.Proofs.Ytccggjhmnbebbaa.Kit
open Go.ChangeShapes Go.WideShapes Go.ChangeAt Go.RowKit

/-- The world w' is W with new blocks; block n, none of W's, has k cells that may be written. -/
def Res (W : World) (n k : Nat) (w' : World) : Prop := Ext W w' ∧ W.heap.size ≤ n ∧ ∀ i, i < k → ∃ v, w'.cell? ⟨n, i, none⟩ = some v ∧ w'.frozen? ⟨n, i, none⟩ = false
theorem Res.new {W : World} {vs : List Value} {t : TypeId} {n : Nat} (hn : W.heap.size = n) (k : Nat) (hk : vs.length = k) : Res W n k (W.alloc (.cells vs.toArray t)) :=
  ⟨(Ext.refl W).alloc _, by omega, fun i hi => ⟨vs[i]'(by omega), boxed i (by simp) hn, thawed i hn⟩⟩
theorem Res.new2 {W : World} {x y : Value} {t : TypeId} : Res W W.heap.size 2 (W.alloc (.cells #[x, y] t)) := Res.new rfl 2 rfl
theorem Res.new4 {W : World} {x y z u : Value} {t : TypeId} : Res W W.heap.size 4 (W.alloc (.cells #[x, y, z, u] t)) := Res.new rfl 4 rfl
theorem Res.ext {W : World} {n k : Nat} {a b : World} (h : Res W n k a) (x : Ext a b) : Res W n k b :=
  ⟨h.1.trans x, h.2.1, fun i hi => by obtain ⟨v, c, f⟩ := h.2.2 i hi; exact ⟨v, x.cellOf c, x.thawOf c f⟩⟩
theorem Res.drew {W : World} {n k : Nat} {a : World} (h : Res W n k a) : Res W n k a.drew := h.ext (Ext.refl a).drew
theorem Res.set {W : World} {n k : Nat} {a : World} (h : Res W n k a) (i : Nat) (u : Value) : Res W n k (a.setCell ⟨n, i, none⟩ u) := by
  refine ⟨h.1.setNew h.2.1 u, h.2.1, fun j hj => ?_⟩
  obtain ⟨v, c, f⟩ := h.2.2 j hj
  by_cases e : i = j
  · subst e; exact ⟨u, World.cell?_setCell_same _ _ _ c, by rw [World.frozen?_setCell]; exact f⟩
  · exact ⟨v, by rw [World.cell?_setCell_other _ _ _ _ (by simp <;> omega)]; exact c, by rw [World.frozen?_setCell]; exact f⟩
theorem Res.two {W : World} {n : Nat} {a : World} (h : Res W n 2 a) : ∃ x y, Box a n [x, y] := by
  obtain ⟨x, c0, f0⟩ := h.2.2 0 (by omega)
  obtain ⟨y, c1, f1⟩ := h.2.2 1 (by omega)
  refine ⟨x, y, fun i v hv => ?_⟩
  match i, hv with
  | 0, hv => simp at hv; subst hv; exact ⟨c0, f0⟩
  | 1, hv => simp at hv; subst hv; exact ⟨c1, f1⟩
theorem Res.four {W : World} {n : Nat} {a : World} (h : Res W n 4 a) : ∃ x y z u, Box a n [x, y, z, u] := by
  obtain ⟨x, c0, f0⟩ := h.2.2 0 (by omega)
  obtain ⟨y, c1, f1⟩ := h.2.2 1 (by omega)
  obtain ⟨z, c2, f2⟩ := h.2.2 2 (by omega)
  obtain ⟨u, c3, f3⟩ := h.2.2 3 (by omega)
  refine ⟨x, y, z, u, fun i v hv => ?_⟩
  match i, hv with
  | 0, hv => simp at hv; subst hv; exact ⟨c0, f0⟩
  | 1, hv => simp at hv; subst hv; exact ⟨c1, f1⟩
  | 2, hv => simp at hv; subst hv; exact ⟨c2, f2⟩
  | 3, hv => simp at hv; subst hv; exact ⟨c3, f3⟩

/-- So, and a box m beside it holds the values vs. -/
def ResB (W : World) (n k m : Nat) (vs : List Value) (w' : World) : Prop := Res W n k w' ∧ m ≠ n ∧ Box w' m vs
theorem ResB.ext {W : World} {n k m : Nat} {vs : List Value} {a b : World} (h : ResB W n k m vs a) (x : Ext a b) : ResB W n k m vs b := ⟨h.1.ext x, h.2.1, h.2.2.ext x⟩
theorem ResB.drew {W : World} {n k m : Nat} {vs : List Value} {a : World} (h : ResB W n k m vs a) : ResB W n k m vs a.drew := h.ext (Ext.refl a).drew
theorem ResB.set {W : World} {n k m : Nat} {vs : List Value} {a : World} (h : ResB W n k m vs a) (i : Nat) (u : Value) : ResB W n k m vs (a.setCell ⟨n, i, none⟩ u) :=
  ⟨h.1.set i u, h.2.1, h.2.2.away (by simpa using fun e => h.2.1 e.symm) u⟩

/-- The world w' is WL but for block n and new blocks; block n has k cells that may be written. -/
def ResC (WL : World) (n k : Nat) (w' : World) : Prop := Chg n WL w' ∧ ∀ i, i < k → ∃ v, w'.cell? ⟨n, i, none⟩ = some v ∧ w'.frozen? ⟨n, i, none⟩ = false
theorem ResC.of2 {WL : World} {n : Nat} {x y : Value} (h : Box WL n [x, y]) : ResC WL n 2 WL :=
  ⟨Chg.refl _ _, fun i hi => match i, hi with
    | 0, _ => ⟨x, h 0 x rfl⟩
    | 1, _ => ⟨y, h 1 y rfl⟩⟩
theorem ResC.ext {WL : World} {n k : Nat} {a b : World} (h : ResC WL n k a) (x : Ext a b) : ResC WL n k b :=
  ⟨h.1.trans (Chg.of_ext x), fun i hi => by obtain ⟨v, c, f⟩ := h.2 i hi; exact ⟨v, x.cellOf c, x.thawOf c f⟩⟩
theorem ResC.drew {WL : World} {n k : Nat} {a : World} (h : ResC WL n k a) : ResC WL n k a.drew := h.ext (Ext.refl a).drew
theorem ResC.set {WL : World} {n k : Nat} {a : World} (h : ResC WL n k a) (i : Nat) (u : Value) : ResC WL n k (a.setCell ⟨n, i, none⟩ u) := by
  refine ⟨h.1.setCell i u, fun j hj => ?_⟩
  obtain ⟨v, c, f⟩ := h.2 j hj
  by_cases e : i = j
  · subst e; exact ⟨u, World.cell?_setCell_same _ _ _ c, by rw [World.frozen?_setCell]; exact f⟩
  · exact ⟨v, by rw [World.cell?_setCell_other _ _ _ _ (by simp <;> omega)]; exact c, by rw [World.frozen?_setCell]; exact f⟩
theorem ResC.cell {WL : World} {n k : Nat} {a : World} (h : ResC WL n k a) {p : Addr} {v : Value} (hp : p.block ≠ n) (hc : WL.cell? p = some v) : a.cell? p = some v := h.1.cellOf hp hc
theorem ResC.to {w WL : World} {n k : Nat} {a : World} (h : ResC WL n k a) (x : Ext w WL) (hn : w.heap.size ≤ n) : Ext w a := h.1.ext x hn
theorem ResC.two {WL : World} {n : Nat} {a : World} (h : ResC WL n 2 a) : ∃ x y, Box a n [x, y] := by
  obtain ⟨x, c0, f0⟩ := h.2 0 (by omega)
  obtain ⟨y, c1, f1⟩ := h.2 1 (by omega)
  refine ⟨x, y, fun i v hv => ?_⟩
  match i, hv with
  | 0, hv => simp at hv; subst hv; exact ⟨c0, f0⟩
  | 1, hv => simp at hv; subst hv; exact ⟨c1, f1⟩
theorem Box.new3 {w : World} {x y z : Value} {t : TypeId} {n : Nat} (hn : w.heap.size = n) : Box (w.alloc (.cells #[x, y, z] t)) n [x, y, z] := Box.new hn

end Go.Proofs.Ytccggjhmnbebbaa.Kit

/- Rows of fixes that a call makes itself and that grow. -/
namespace Go.Proofs.Ytccggjhmnbebbaa.Trk
open Go.ChangeShapes Go.WideShapes Go.ChangeAt Go.RowKit
open Go.Proofs.Ytccggjhmnbebbaa.Num Go.Proofs.Ytccggjhmnbebbaa.Kit Go.Proofs.Ytccggjhmnbebbaa.Pts
set_option linter.unusedVariables false
set_option linter.unusedSimpArgs false

def cellsF (fs : List F3) : List Value := fs.flatMap fun f => [.int .i64 f.t, .int .i64 f.x, .int .i64 f.y]
theorem cellsF_len : ∀ fs : List F3, (cellsF fs).length = fs.length * 3
  | [] => rfl
  | f :: fs => by
    have := cellsF_len fs
    simp only [cellsF, List.flatMap_cons, List.length_append, List.length_cons, List.length_nil] at this ⊢
    omega
theorem cellsF_app (fs : List F3) (f : F3) : cellsF fs ++ [.int .i64 f.t, .int .i64 f.x, .int .i64 f.y] = cellsF (fs ++ [f]) := by simp [cellsF]
theorem cellsF_app2 (fs gs : List F3) : cellsF fs ++ cellsF gs = cellsF (fs ++ gs) := by simp [cellsF]
theorem cellsF_get : ∀ (fs : List F3) (i : Nat), i < fs.length → (cellsF fs)[i * 3]? = some (.int .i64 (fx fs i).t) ∧ (cellsF fs)[i * 3 + 1]? = some (.int .i64 (fx fs i).x) ∧ (cellsF fs)[i * 3 + 2]? = some (.int .i64 (fx fs i).y)
  | [], i, h => absurd h (by simp)
  | f :: fs, 0, _ => by simp [cellsF, fx]
  | f :: fs, i + 1, h => by
    have := cellsF_get fs i (by simpa using h)
    have e : cellsF (f :: fs) = .int .i64 f.t :: .int .i64 f.x :: .int .i64 f.y :: cellsF fs := by simp [cellsF]
    rw [e, show (i + 1) * 3 = i * 3 + 3 by omega]
    simpa [fx] using this
theorem cellsF_one : ∀ (fs : List F3) (u : Value), u ∈ cellsF fs → u.oneCell' = true := by
  intro fs u hu
  simp only [cellsF, List.mem_flatMap] at hu
  obtain ⟨f, _, hu⟩ := hu
  simp at hu
  rcases hu with rfl | rfl | rfl <;> rfl

/-- A slice of fixes that the call made itself: nil, or a row in a block of its own from 'base' on, which may be written. -/
def OwnF (w : World) (base : Nat) (v : Value) (fs : List F3) : Prop := w.ownsRow base 38 3 v fs.length (cellsF fs)

theorem OwnF.fxs {w : World} {base : Nat} {v : Value} {fs : List F3} (h : OwnF w base v fs) : ∃ a cap, v = .slice a fs.length cap ∧ fs.length ≤ cap ∧ Fxs w a fs ∧ (fs = [] ∨ ∃ g, a = some ⟨g, 0, none⟩ ∧ base ≤ g ∧ Own w g fs) := by
  have h0 := h
  rcases h.2 with ⟨hv, hn⟩ | ⟨g, cap, cur, hv, hb, hg, hc, hm, hs, ht⟩
  · have e : fs = [] := List.length_eq_zero_iff.1 hn
    subst e
    exact ⟨none, 0, hv, Nat.le_refl _, ⟨by simp [maxLen], .inl rfl⟩, .inl rfl⟩
  · rw [hv] at h0
    have hO : Own w g fs := fun i hi => by
      obtain ⟨c0, c1, c2⟩ := cellsF_get fs i hi
      exact ⟨⟨by rw [h0.cellAt (i * 3) (by omega)]; exact c0, by rw [h0.cellAt (i * 3 + 1) (by omega)]; exact c1, by rw [h0.cellAt (i * 3 + 2) (by omega)]; exact c2⟩, h0.frozenAt _, h0.frozenAt _, h0.frozenAt _⟩
    exact ⟨some ⟨g, 0, none⟩, cap, hv, hc, hO.fxs (by omega), .inr ⟨g, rfl, hb, hO⟩⟩

theorem OwnF.nil (w : World) (base : Nat) : OwnF w base (.slice none 0 0) [] := World.ownsRow_nil w base _ 3
theorem OwnF.chg {w w' : World} {base B : Nat} {v : Value} {fs : List F3} (h : OwnF w base v fs) (k : Chg B w w') (hB : v.ownBlock ≠ some B) : OwnF w' base v fs :=
  World.ownsRow.kept h (row := some B) ⟨k.os, k.tape, k.output, k.size, fun i hi hne => k.block i hi (fun e => hne (by rw [e]))⟩ (.inr hB)
theorem OwnF.ext {w w' : World} {base : Nat} {v : Value} {fs : List F3} (h : OwnF w base v fs) (k : Ext w w') : OwnF w' base v fs := by
  refine World.ownsRow.kept h (row := none) ⟨Below.os k, Below.tape k, Below.output k, Below.size k, fun i hi _ => Below.block k i hi⟩ ?_
  cases v.ownBlock with
  | none => exact .inl rfl
  | some g => exact .inr (by simp)
theorem OwnF.block {w : World} {base : Nat} {v : Value} {fs : List F3} (h : OwnF w base v fs) {B : Nat} (hB : B < base) : v.ownBlock ≠ some B := fun e => by have := (World.ownsRow.lt h B e).1; omega
/-- What an append to such a row leaves of the rest. -/
theorem grown_chg {w w' : World} {base : Nat} {v : Value} {fs : List F3} {B : Nat} {w0 : World} (h : OwnF w base v fs) (hg : w.grownBy w' v.ownBlock) (hb : w0.heap.size ≤ base) (hc : Chg B w0 w) : Chg B w0 w' :=
  ⟨hg.os.trans hc.os, hg.tape.trans hc.tape, hg.output.trans hc.output, Nat.le_trans hc.size hg.size, fun k hk hkB => (hg.block k (Nat.lt_of_lt_of_le hk hc.size) (fun e => by have := (World.ownsRow.lt h k e.symm).1; omega)).trans (hc.block k hk hkB)⟩
theorem grown_ext {w w' : World} {base : Nat} {v : Value} {fs : List F3} {w0 : World} (h : OwnF w base v fs) (hg : w.grownBy w' v.ownBlock) (hb : w0.heap.size ≤ base) (hc : Ext w0 w) : Ext w0 w' :=
  ⟨hg.os.trans (Below.os hc), hg.tape.trans (Below.tape hc), hg.output.trans (Below.output hc), Nat.le_trans (Below.size hc) hg.size, fun k hk => (hg.block k (Nat.lt_of_lt_of_le hk (Below.size hc)) (fun e => by have := (World.ownsRow.lt h k e.symm).1; omega)).trans (Below.block hc k hk)⟩
theorem grown_box {w w' : World} {base : Nat} {v : Value} {fs : List F3} {n : Nat} {vs : List Value} (h : OwnF w base v fs) (hg : w.grownBy w' v.ownBlock) (hn : v.ownBlock ≠ some n) (hbx : Box w n vs) : Box w' n vs := by
  intro i u hu
  obtain ⟨c, f⟩ := hbx i u hu
  have hl := World.block_lt_of_cell? w _ c
  have e := hg.block n hl (fun e => hn e.symm)
  exact ⟨by rw [World.cell?_of_block (w := w) (a := ⟨n, i, none⟩) e]; exact c, by rw [World.frozen?_of_block (w := w) (a := ⟨n, i, none⟩) e]; exact f⟩

theorem OwnF.mono {w : World} {base b2 : Nat} {v : Value} {fs : List F3} (h : OwnF w base v fs) (hb : b2 ≤ base) : OwnF w b2 v fs := by
  refine ⟨h.1, ?_⟩
  rcases h.2 with h1 | ⟨g, cap, cur, hv, hg, r⟩
  · exact .inl h1
  · exact .inr ⟨g, cap, cur, hv, by omega, r⟩
/-- One fix is put behind a row. -/
theorem OwnF.snoc {w : World} {base : Nat} {v : Value} {fs : List F3} {t x y : Int} (h : w.ownsRow base 38 3 v (fs.length + 1) (cellsF fs ++ [.int .i64 t, .int .i64 x, .int .i64 y])) : OwnF w base v (fs ++ [⟨t, x, y⟩]) := by
  rw [cellsF_app fs ⟨t, x, y⟩] at h
  unfold OwnF
  rw [List.length_append]
  exact h
theorem one_cells {w : World} {t x y : Int} {ty : TypeId} : ∀ (j : Nat) (u : Value), ([Value.int .i64 t, .int .i64 x, .int .i64 y] : List Value)[j]? = some u → (w.alloc (.cells #[.int .i64 t, .int .i64 x, .int .i64 y] ty)).cell? ((⟨w.heap.size, 0, none⟩ : Addr).add j) = some u := by
  intro j u hu
  rw [show (⟨w.heap.size, 0, none⟩ : Addr).add j = ⟨w.heap.size, j, none⟩ by simp [Addr.add]; omega]
  exact boxed j (by simpa using hu) rfl
theorem one_ones {t x y : Int} : ∀ u ∈ ([Value.int .i64 t, .int .i64 x, .int .i64 y] : List Value), u.oneCell' = true := by
  intro u hu
  simp at hu
  rcases hu with rfl | rfl | rfl <;> rfl

end Go.Proofs.Ytccggjhmnbebbaa.Trk

/- Contracts of the source of numbers (spec.l01From, spec.l01Next): whatever the code, a number in its range comes out, and nothing but the source itself is written. -/
namespace Go.Proofs.Ytccggjhmnbebbaa.Draw
open Go.ChangeShapes Go.WideShapes Go.ChangeAt Go.RowKit
open Go.Proofs.Ytccggjhmnbebbaa.Num Go.Proofs.Ytccggjhmnbebbaa.Kit
set_option linter.unusedVariables false

/-- The letters of a code, outside block B. -/
def Code (w : World) (B : Nat) (a : Option Addr) (len : Nat) : Prop :=
  len = 0 ∨ ∃ b off, a = some ⟨b, off, none⟩ ∧ b < B ∧ ∀ i, i < len → ∃ z : Int, 0 ≤ z ∧ z ≤ 255 ∧ w.cell? ⟨b, off + i, none⟩ = some (.int .u8 z)

theorem Code.chg {w w' : World} {B : Nat} {a : Option Addr} {len : Nat} (h : Code w B a len) (k : Chg B w w') : Code w' B a len := by
  rcases h with h | ⟨b, off, ha, hb, h⟩
  · exact .inl h
  · exact .inr ⟨b, off, ha, hb, fun i hi => by obtain ⟨z, z0, z1, hz⟩ := h i hi; exact ⟨z, z0, z1, k.cellOf (a := ⟨b, off + i, none⟩) (Nat.ne_of_lt hb) hz⟩⟩

/-- The cells of a source. -/
structure SrcAt (w : World) (B : Nat) (a : Option Addr) (len cap : Nat) (at_ seed : Int) : Prop where
  c0 : w.cell? ⟨B, 0, none⟩ = some (.slice a len cap)
  c1 : w.cell? ⟨B, 1, none⟩ = some (.int .i64 at_)
  c2 : w.cell? ⟨B, 2, none⟩ = some (.int .i64 seed)
  f1 : w.frozen? ⟨B, 1, none⟩ = false
  f2 : w.frozen? ⟨B, 2, none⟩ = false

theorem SrcAt.setSeed {w : World} {B : Nat} {a : Option Addr} {len cap : Nat} {at_ seed : Int} (h : SrcAt w B a len cap at_ seed) (s : Int) : SrcAt (w.setCell ⟨B, 2, none⟩ (.int .i64 s)) B a len cap at_ s :=
  ⟨by rw [World.cell?_setCell_other _ _ _ _ (by simp)]; exact h.c0, by rw [World.cell?_setCell_other _ _ _ _ (by simp)]; exact h.c1, World.cell?_setCell_same _ _ _ h.c2, by rw [World.frozen?_setCell]; exact h.f1, by rw [World.frozen?_setCell]; exact h.f2⟩
theorem SrcAt.setAt {w : World} {B : Nat} {a : Option Addr} {len cap : Nat} {at_ seed : Int} (h : SrcAt w B a len cap at_ seed) (s : Int) : SrcAt (w.setCell ⟨B, 1, none⟩ (.int .i64 s)) B a len cap s seed :=
  ⟨by rw [World.cell?_setCell_other _ _ _ _ (by simp)]; exact h.c0, World.cell?_setCell_same _ _ _ h.c1, by rw [World.cell?_setCell_other _ _ _ _ (by simp)]; exact h.c2, by rw [World.frozen?_setCell]; exact h.f1, by rw [World.frozen?_setCell]; exact h.f2⟩
theorem SrcAt.drewN {w : World} {B : Nat} {a : Option Addr} {len cap : Nat} {at_ seed : Int} (h : SrcAt w B a len cap at_ seed) (n : Nat) : SrcAt (w.drewN n) B a len cap at_ seed := ⟨h.c0, h.c1, h.c2, h.f1, h.f2⟩

theorem SrcAt.drew {w : World} {B : Nat} {a : Option Addr} {len cap : Nat} {at_ seed : Int} (h : SrcAt w B a len cap at_ seed) : SrcAt w.drew B a len cap at_ seed := ⟨h.c0, h.c1, h.c2, h.f1, h.f2⟩

/-- Block B is a source. -/
def Src (w : World) (B : Nat) : Prop :=
  ∃ (a : Option Addr) (len cap : Nat) (at_ seed : Int), SrcAt w B a len cap at_ seed ∧ 0 ≤ at_ ∧ at_ ≤ len ∧ len ≤ 100000 ∧ 0 ≤ seed ∧ seed < 2147483647 ∧ Code w B a len

theorem Src.mk {w w' : World} {B : Nat} {a : Option Addr} {len cap : Nat} {at_ seed : Int} (h : SrcAt w' B a len cap at_ seed) (ha0 : 0 ≤ at_) (ha : at_ ≤ len) (hl : len ≤ 100000) (h1 : 0 ≤ seed) (h2 : seed < 2147483647) (k : Chg B w w') (hc : Code w B a len) : Src w' B :=
  ⟨a, len, cap, at_, seed, h, ha0, ha, hl, h1, h2, hc.chg k⟩

/-- What a call of l01Next(s, n) leaves. -/
def Nxt (B : Nat) (n : Int) (w : World) (e : Ending) (w' : World) : Prop :=
  ∃ r : Int, e = .returned (.int .i64 r) ∧ 0 ≤ r ∧ (1 < n → r < n) ∧ (n ≤ 1 → r = 0) ∧ Src w' B ∧ Chg B w w'

theorem Nxt.mk {B : Nat} {n x : Int} {w w' : World} (hn : 1 < n) (hx : 0 ≤ x) (hs : Src w' B) (k : Chg B w w') : Nxt B n w (.returned (.int .i64 (x % n))) w' :=
  ⟨x % n, rfl, Int.emod_nonneg _ (by omega), fun _ => Int.emod_lt_of_pos _ (by omega), fun h => by omega, hs, k⟩

theorem next_one (B : Nat) (n : Int) (w : World) (hs : Src w B) (hn : n ≤ 1) : Calls Try.prog 33 #[.pointer (some ⟨B, 0, none⟩), .int .i64 n] w (Nxt B n w) := by
  have HS := Lib.hid hs
  clear hs
  go_enter Try.func33, Try.ntmps33
  go_wp2
  go_ret
  exact ⟨0, rfl, by omega, by omega, by omega, HS.out, Chg.refl _ _⟩

theorem next_end (B : Nat) (n : Int) (w : World) (hn : 1 < n) (a : Option Addr) (len cap : Nat) (seed : Int) (S : SrcAt w B a len cap len seed)
    (hl : len ≤ 100000) (h1 : 0 ≤ seed) (h2 : seed < 2147483647) (hc : Code w B a len) :
    Calls Try.prog 33 #[.pointer (some ⟨B, 0, none⟩), .int .i64 n] w (Nxt B n w) := by
  have HC := Lib.hid hc
  clear hc
  obtain ⟨c0, c1, c2, f1, f2⟩ := S
  have HS := Lib.hid (SrcAt.mk c0 c1 c2 f1 f2)
  go_enter Try.func33, Try.ntmps33
  go_wp2_with fail
  go_quiet (fail)
  go_wp2
  go_ret
  exact Nxt.mk hn (by omega) (Src.mk ((HS.out.setSeed _).drewN _) (by omega) (by omega) hl (by omega) (by omega) (((Chg.refl _ _).setCell _ _).drewN _) HC.out) (((Chg.refl _ _).setCell _ _).drewN _)

set_option maxHeartbeats 400000 in
theorem next_mid (B : Nat) (n : Int) (w : World) (hn : 1 < n) (b off len cap at_ : Nat) (seed z : Int) (S : SrcAt w B (some ⟨b, off, none⟩) len cap at_ seed)
    (ha : at_ < len) (hb : b ≠ B) (hz : w.cell? ⟨b, off + at_, none⟩ = some (.int .u8 z)) (z0 : 0 ≤ z) (z1 : z ≤ 255)
    (hl : len ≤ 100000) (h1 : 0 ≤ seed) (h2 : seed < 2147483647) (hc : Code w B (some ⟨b, off, none⟩) len) :
    Calls Try.prog 33 #[.pointer (some ⟨B, 0, none⟩), .int .i64 n] w (Nxt B n w) := by
  have HC := Lib.hid hc
  clear hc
  obtain ⟨c0, c1, c2, f1, f2⟩ := S
  have HS := Lib.hid (SrcAt.mk c0 c1 c2 f1 f2)
  have i0 : (0 : Int) ≤ (at_ : Int) := by omega
  have i1 : (at_ : Int) < (len : Int) := by omega
  by_cases g1 : n ≤ 256
  · by_cases g2 : ((at_ : Int) + 1) % 2 = 0
    · have g3 : (((at_ : Int) + 1) % 2 == 0) = true := beq_iff_eq.2 g2
      clear g2
      go_enter Try.func33, Try.ntmps33
      go_wp2_with fail
      go_quiet (fail)
      go_wp2_with fail
      go_quiet (fail)
      go_wp2_with fail
      go_quiet (fail)
      go_wp2
      go_ret
      exact Nxt.mk hn (by omega) (Src.mk ((((HS.out.setSeed _).drewN _).setAt _).drewN _) (by omega) (by omega) hl (by omega) (by omega) (((((Chg.refl _ _).setCell _ _).drewN _).setCell _ _).drewN _) HC.out) (((((Chg.refl _ _).setCell _ _).drewN _).setCell _ _).drewN _)
    · have g3 : (((at_ : Int) + 1) % 2 == 0) = false := beq_eq_false_iff_ne.2 g2
      clear g2
      go_enter Try.func33, Try.ntmps33
      go_wp2_with fail
      go_quiet (fail)
      go_wp2_with fail
      go_quiet (fail)
      go_wp2
      go_ret
      exact Nxt.mk hn (by omega) (Src.mk (((HS.out.setSeed _).drewN _).setAt _) (by omega) (by omega) hl (by omega) (by omega) ((((Chg.refl _ _).setCell _ _).drewN _).setCell _ _) HC.out) ((((Chg.refl _ _).setCell _ _).drewN _).setCell _ _)
  · go_enter Try.func33, Try.ntmps33
    go_wp2_with fail
    go_quiet (fail)
    go_wp2_with fail
    go_quiet (fail)
    go_wp2
    go_ret
    exact Nxt.mk hn (by omega) (Src.mk (((HS.out.setSeed _).drewN _).setAt _) (by omega) (by omega) hl (by omega) (by omega) ((((Chg.refl _ _).setCell _ _).drewN _).setCell _ _) HC.out) ((((Chg.refl _ _).setCell _ _).drewN _).setCell _ _)

theorem next_any (B : Nat) (n : Int) (w : World) (hs : Src w B) : Calls Try.prog 33 #[.pointer (some ⟨B, 0, none⟩), .int .i64 n] w (Nxt B n w) := by
  rcases Int.lt_or_le 1 n with hn | hn
  · obtain ⟨a, len, cap, at_, seed, S, a0, a1, hl, h1, h2, hc⟩ := hs
    obtain ⟨k, rfl⟩ := Int.eq_ofNat_of_zero_le a0
    rcases Nat.lt_or_ge k len with hk | hk
    · have hc' := hc
      rcases hc with hc | ⟨b, off, rfl, hb, hc⟩
      · omega
      · obtain ⟨z, z0, z1, hz⟩ := hc k hk
        exact next_mid B n w hn b off len cap k seed z S hk (Nat.ne_of_lt hb) hz z0 z1 hl h1 h2 hc'
    · obtain rfl : k = len := by omega
      exact next_end B n w hn a k cap seed S hl h1 h2 hc
  · exact next_one B n w hs hn

theorem code_of_bytes {w w' : World} {a : Option Addr} {len : Nat} (h : Bytes w a len) (k : Ext w w') {B : Nat} (hB : w.heap.size ≤ B) : Code w' B a len := by
  rcases h with h | ⟨b, off, ha, h⟩
  · exact .inl h
  · rcases Nat.eq_zero_or_pos len with h0 | h0
    · exact .inl h0
    · obtain ⟨z, _, _, hz⟩ := h 0 h0
      have := World.block_lt_of_cell? w _ hz
      exact .inr ⟨b, off, ha, by simp at this; omega, fun i hi => by obtain ⟨z, z0, z1, hz⟩ := h i hi; exact ⟨z, z0, z1, k.cellOf hz⟩⟩

/-- What a call of l01From(code) leaves. -/
def Frm (w : World) (e : Ending) (w' : World) : Prop := ∃ B, e = .returned (.pointer (some ⟨B, 0, none⟩)) ∧ w.heap.size ≤ B ∧ Src w' B ∧ Ext w w'

/-- What its loop keeps. -/
def RelF (w : World) (a : Option Addr) (len cap : Nat) (i : Value) (wr : World) : Prop :=
  ∃ (k : Nat) (seed : Int), i = .int .i64 k ∧ k ≤ len ∧ SrcAt wr w.heap.size a len cap 0 seed ∧ 0 ≤ seed ∧ seed < 2147483647 ∧ Ext w wr

set_option maxHeartbeats 400000 in
theorem from_any (a : Option Addr) (len cap : Nat) (w : World) (hb : Bytes w a len) (hl : len ≤ 100000) : Calls Try.prog 20 #[.slice a len cap] w (Frm w) := by
  have HB := Lib.hid hb
  clear hb
  go_enter Try.func20, Try.ntmps20
  go_wp2
  go_loopw [4] (fun i wr => RelF w a len cap i wr) (fun i _ => len - (intOf i).toNat)
  case atStart => exact ⟨0, 61657, rfl, by omega, ⟨boxed 0 rfl rfl, boxed 1 rfl rfl, boxed 2 rfl rfl, thawed 1 rfl, thawed 2 rfl⟩, by omega, by omega, (Ext.refl _).alloc _⟩
  case round =>
    obtain ⟨k, seed, rfl, hk, S, s0, s1, hx⟩ := hrel
    have HX := Lib.hid hx
    have HS := Lib.hid S
    obtain ⟨c0, c1, c2, f1, f2⟩ := S
    by_cases hk1 : k < len
    · by_cases hk2 : k < 64
      · rcases HB.out with h0 | ⟨b, off, rfl, hb⟩
        · omega
        obtain ⟨z, z0, z1, hz⟩ := hb k hk1
        have hne := World.block_lt_of_cell? w _ hz
        replace hz := hx.cellOf hz
        have i0 : (0 : Int) ≤ (k : Int) := by omega
        have i1 : (k : Int) < (len : Int) := by omega
        clear hx hb
        go_wp2
        go_region
        go_wp2
        go_roundw
        case rel => exact ⟨k + 1, (seed * 53 + z) % 2147483647, by go_num, by omega, (HS.out.setSeed _).drew, by omega, by omega, (HX.out.setNew (p := ⟨w.heap.size, 2, none⟩) (Nat.le_refl _) _).drew⟩
        case measure => simp [intOf]; omega
      · clear hx
        go_wp2
        go_ret
        exact ⟨w.heap.size, rfl, Nat.le_refl _, Src.mk HS.out (by omega) (by omega) hl s0 s1 (Chg.refl _ _) (code_of_bytes HB.out HX.out (Nat.le_refl _)), HX.out⟩
    · clear hx
      go_wp2
      go_ret
      exact ⟨w.heap.size, rfl, Nat.le_refl _, Src.mk HS.out (by omega) (by omega) hl s0 s1 (Chg.refl _ _) (code_of_bytes HB.out HX.out (Nat.le_refl _)), HX.out⟩

theorem Src.alloc {w : World} {B : Nat} (h : Src w B) (o : Obj) : Src (w.alloc o) B := by
  obtain ⟨a, len, cap, at_, seed, S, h⟩ := h
  have l1 := World.block_lt_of_cell? w _ S.c1
  have l2 := World.block_lt_of_cell? w _ S.c2
  have hx := (Ext.refl w).alloc o
  exact ⟨a, len, cap, at_, seed, ⟨hx.cellOf S.c0, hx.cellOf S.c1, hx.cellOf S.c2, (Below.frozen hx l1).trans S.f1, (Below.frozen hx l2).trans S.f2⟩, h.1, h.2.1, h.2.2.1, h.2.2.2.1, h.2.2.2.2.1, h.2.2.2.2.2.chg (Chg.of_ext hx)⟩

theorem Src.ext {w w' : World} {B : Nat} (h : Src w B) (hx : Ext w w') : Src w' B := by
  obtain ⟨a, len, cap, at_, seed, S, h⟩ := h
  have l1 := World.block_lt_of_cell? w _ S.c1
  have l2 := World.block_lt_of_cell? w _ S.c2
  exact ⟨a, len, cap, at_, seed, ⟨hx.cellOf S.c0, hx.cellOf S.c1, hx.cellOf S.c2, (Below.frozen hx l1).trans S.f1, (Below.frozen hx l2).trans S.f2⟩, h.1, h.2.1, h.2.2.1, h.2.2.2.1, h.2.2.2.2.1, h.2.2.2.2.2.chg (Chg.of_ext hx)⟩
theorem Src.drew {w : World} {B : Nat} (h : Src w B) : Src w.drew B := h.ext (Ext.refl w).drew
theorem Src.drewN {w : World} {B : Nat} (h : Src w B) (n : Nat) : Src (w.drewN n) B := h.ext ((Ext.refl w).drewN n)
/-- A store into a younger block leaves the source. -/
theorem Src.setCell {w : World} {B : Nat} (h : Src w B) {p : Addr} (hp : B < p.block) (u : Value) : Src (w.setCell p u) B := by
  obtain ⟨a, len, cap, at_, seed, S, a0, a1, hl, h1, h2, hc⟩ := h
  have e : ∀ o, (w.setCell p u).cell? ⟨B, o, none⟩ = w.cell? ⟨B, o, none⟩ := fun o => World.cell?_setCell_other _ _ _ _ (fun he => by rw [he] at hp; simp at hp)
  refine ⟨a, len, cap, at_, seed, ⟨(e 0).trans S.c0, (e 1).trans S.c1, (e 2).trans S.c2, by rw [World.frozen?_setCell]; exact S.f1, by rw [World.frozen?_setCell]; exact S.f2⟩, a0, a1, hl, h1, h2, ?_⟩
  rcases hc with hc | ⟨b, off, ha, hb, hc⟩
  · exact .inl hc
  · exact .inr ⟨b, off, ha, hb, fun i hi => by
      obtain ⟨z, z0, z1, hz⟩ := hc i hi
      exact ⟨z, z0, z1, by rw [World.cell?_setCell_other _ _ _ _ (fun he => by rw [he] at hp; simp at hp; omega)]; exact hz⟩⟩

/-- What a call of l01Next(s, n) leaves, for n greater than 1. -/
def NxtP (B : Nat) (n : Int) (w : World) (e : Ending) (w' : World) : Prop :=
  ∃ r : Int, e = .returned (.int .i64 r) ∧ 0 ≤ r ∧ r < n ∧ Src w' B ∧ Chg B w w'
theorem next_pos (B : Nat) (n : Int) (w : World) (hs : Src w B) (hn : 1 < n) : Calls Try.prog 33 #[.pointer (some ⟨B, 0, none⟩), .int .i64 n] w (NxtP B n w) :=
  (next_any B n w hs).mono fun e w' ⟨r, h0, h1, h2, _, h4, h5⟩ => ⟨r, h0, h1, h2 hn, h4, h5⟩

theorem Src.lt {w : World} {B : Nat} (h : Src w B) : B < w.heap.size := by
  obtain ⟨a, len, cap, at_, seed, S, h⟩ := h
  exact World.block_lt_of_cell? w _ S.c0

/-- One of a table's numbers. -/
theorem pick_any {B : Nat} {w w2 : World} {cs : Array Value} {t : TypeId} (hc : Chg B (w.alloc (.cells cs t)) w2) (hs : Src w B) {r : Nat} {v : Value} (hv : cs[r]? = some v) : w2.cell? ⟨w.heap.size, r, none⟩ = some v :=
  hc.cellOf (a := ⟨w.heap.size, r, none⟩) (by have := hs.lt; simp; omega) (boxed r hv rfl)
theorem pick2 {B : Nat} {w w2 : World} {x0 x1 : Int} {t : TypeId} (hc : Chg B (w.alloc (.cells #[.int .i64 x0, .int .i64 x1] t)) w2) (hs : Src w B) {r : Int} (r0 : 0 ≤ r) (r1 : r < 2) :
    ∃ v : Int, w2.cell? ⟨w.heap.size, r.toNat, none⟩ = some (.int .i64 v) ∧ (v = x0 ∨ v = x1) := by
  obtain ⟨k, rfl⟩ := Int.eq_ofNat_of_zero_le r0
  rw [Int.toNat_natCast]
  rcases (show k = 0 ∨ k = 1 by omega) with rfl | rfl
  · exact ⟨x0, pick_any hc hs rfl, by simp⟩
  · exact ⟨x1, pick_any hc hs rfl, by simp⟩
theorem pick3 {B : Nat} {w w2 : World} {x0 x1 x2 : Int} {t : TypeId} (hc : Chg B (w.alloc (.cells #[.int .i64 x0, .int .i64 x1, .int .i64 x2] t)) w2) (hs : Src w B) {r : Int} (r0 : 0 ≤ r) (r1 : r < 3) :
    ∃ v : Int, w2.cell? ⟨w.heap.size, r.toNat, none⟩ = some (.int .i64 v) ∧ (v = x0 ∨ v = x1 ∨ v = x2) := by
  obtain ⟨k, rfl⟩ := Int.eq_ofNat_of_zero_le r0
  rw [Int.toNat_natCast]
  rcases (show k = 0 ∨ k = 1 ∨ k = 2 by omega) with rfl | rfl | rfl
  · exact ⟨x0, pick_any hc hs rfl, by simp⟩
  · exact ⟨x1, pick_any hc hs rfl, by simp⟩
  · exact ⟨x2, pick_any hc hs rfl, by simp⟩
theorem pick4 {B : Nat} {w w2 : World} {x0 x1 x2 x3 : Int} {t : TypeId} (hc : Chg B (w.alloc (.cells #[.int .i64 x0, .int .i64 x1, .int .i64 x2, .int .i64 x3] t)) w2) (hs : Src w B) {r : Int} (r0 : 0 ≤ r) (r1 : r < 4) :
    ∃ v : Int, w2.cell? ⟨w.heap.size, r.toNat, none⟩ = some (.int .i64 v) ∧ (v = x0 ∨ v = x1 ∨ v = x2 ∨ v = x3) := by
  obtain ⟨k, rfl⟩ := Int.eq_ofNat_of_zero_le r0
  rw [Int.toNat_natCast]
  rcases (show k = 0 ∨ k = 1 ∨ k = 2 ∨ k = 3 by omega) with rfl | rfl | rfl | rfl
  · exact ⟨x0, pick_any hc hs rfl, by simp⟩
  · exact ⟨x1, pick_any hc hs rfl, by simp⟩
  · exact ⟨x2, pick_any hc hs rfl, by simp⟩
  · exact ⟨x3, pick_any hc hs rfl, by simp⟩
theorem pick5 {B : Nat} {w w2 : World} {x0 x1 x2 x3 x4 : Int} {t : TypeId} (hc : Chg B (w.alloc (.cells #[.int .i64 x0, .int .i64 x1, .int .i64 x2, .int .i64 x3, .int .i64 x4] t)) w2) (hs : Src w B) {r : Int} (r0 : 0 ≤ r) (r1 : r < 5) :
    ∃ v : Int, w2.cell? ⟨w.heap.size, r.toNat, none⟩ = some (.int .i64 v) ∧ (v = x0 ∨ v = x1 ∨ v = x2 ∨ v = x3 ∨ v = x4) := by
  obtain ⟨k, rfl⟩ := Int.eq_ofNat_of_zero_le r0
  rw [Int.toNat_natCast]
  rcases (show k = 0 ∨ k = 1 ∨ k = 2 ∨ k = 3 ∨ k = 4 by omega) with rfl | rfl | rfl | rfl | rfl
  · exact ⟨x0, pick_any hc hs rfl, by simp⟩
  · exact ⟨x1, pick_any hc hs rfl, by simp⟩
  · exact ⟨x2, pick_any hc hs rfl, by simp⟩
  · exact ⟨x3, pick_any hc hs rfl, by simp⟩
  · exact ⟨x4, pick_any hc hs rfl, by simp⟩
theorem pick6 {B : Nat} {w w2 : World} {x0 x1 x2 x3 x4 x5 : Int} {t : TypeId} (hc : Chg B (w.alloc (.cells #[.int .i64 x0, .int .i64 x1, .int .i64 x2, .int .i64 x3, .int .i64 x4, .int .i64 x5] t)) w2) (hs : Src w B) {r : Int} (r0 : 0 ≤ r) (r1 : r < 6) :
    ∃ v : Int, w2.cell? ⟨w.heap.size, r.toNat, none⟩ = some (.int .i64 v) ∧ (v = x0 ∨ v = x1 ∨ v = x2 ∨ v = x3 ∨ v = x4 ∨ v = x5) := by
  obtain ⟨k, rfl⟩ := Int.eq_ofNat_of_zero_le r0
  rw [Int.toNat_natCast]
  rcases (show k = 0 ∨ k = 1 ∨ k = 2 ∨ k = 3 ∨ k = 4 ∨ k = 5 by omega) with rfl | rfl | rfl | rfl | rfl | rfl
  · exact ⟨x0, pick_any hc hs rfl, by simp⟩
  · exact ⟨x1, pick_any hc hs rfl, by simp⟩
  · exact ⟨x2, pick_any hc hs rfl, by simp⟩
  · exact ⟨x3, pick_any hc hs rfl, by simp⟩
  · exact ⟨x4, pick_any hc hs rfl, by simp⟩
  · exact ⟨x5, pick_any hc hs rfl, by simp⟩
theorem pick8 {B : Nat} {w w2 : World} {x0 x1 x2 x3 x4 x5 x6 x7 : Int} {t : TypeId} (hc : Chg B (w.alloc (.cells #[.int .i64 x0, .int .i64 x1, .int .i64 x2, .int .i64 x3, .int .i64 x4, .int .i64 x5, .int .i64 x6, .int .i64 x7] t)) w2) (hs : Src w B) {r : Int} (r0 : 0 ≤ r) (r1 : r < 8) :
    ∃ v : Int, w2.cell? ⟨w.heap.size, r.toNat, none⟩ = some (.int .i64 v) ∧ (v = x0 ∨ v = x1 ∨ v = x2 ∨ v = x3 ∨ v = x4 ∨ v = x5 ∨ v = x6 ∨ v = x7) := by
  obtain ⟨k, rfl⟩ := Int.eq_ofNat_of_zero_le r0
  rw [Int.toNat_natCast]
  rcases (show k = 0 ∨ k = 1 ∨ k = 2 ∨ k = 3 ∨ k = 4 ∨ k = 5 ∨ k = 6 ∨ k = 7 by omega) with rfl | rfl | rfl | rfl | rfl | rfl | rfl | rfl
  · exact ⟨x0, pick_any hc hs rfl, by simp⟩
  · exact ⟨x1, pick_any hc hs rfl, by simp⟩
  · exact ⟨x2, pick_any hc hs rfl, by simp⟩
  · exact ⟨x3, pick_any hc hs rfl, by simp⟩
  · exact ⟨x4, pick_any hc hs rfl, by simp⟩
  · exact ⟨x5, pick_any hc hs rfl, by simp⟩
  · exact ⟨x6, pick_any hc hs rfl, by simp⟩
  · exact ⟨x7, pick_any hc hs rfl, by simp⟩

/-- The number of a table of three at a place. -/
def pk3 (x y z r : Int) : Int := if r = 0 then x else if r = 1 then y else z
theorem tbl3 {r : Int} (r0 : 0 ≤ r) (r1 : r < 3) : ∀ x y z : Int, (#[Value.int .i64 x, Value.int .i64 y, Value.int .i64 z] : Array Value)[r.toNat]? = some (.int .i64 (pk3 x y z r)) := by
  intro x y z
  obtain ⟨k, rfl⟩ := Int.eq_ofNat_of_zero_le r0
  rw [Int.toNat_natCast]
  rcases (show k = 0 ∨ k = 1 ∨ k = 2 by omega) with rfl | rfl | rfl <;> rfl
theorem pk3_or (x y z r : Int) : pk3 x y z r = x ∨ pk3 x y z r = y ∨ pk3 x y z r = z := by
  unfold pk3; by_cases h : r = 0
  · simp [h]
  · by_cases h1 : r = 1 <;> simp [h, h1]

theorem tab3 {r : Int} (r0 : 0 ≤ r) (r1 : r < 3) : ∃ f : Int → Int → Int → Int, (∀ x y z : Int, (#[Value.int .i64 x, Value.int .i64 y, Value.int .i64 z] : Array Value)[r.toNat]? = some (.int .i64 (f x y z))) ∧
    (∀ (x y z : Int) (h : r.toNat < [Value.int .i64 x, Value.int .i64 y, Value.int .i64 z].length), [Value.int .i64 x, Value.int .i64 y, Value.int .i64 z][r.toNat]'h = .int .i64 (f x y z)) ∧ Hid (∀ x y z, f x y z = x ∨ f x y z = y ∨ f x y z = z) := by
  refine ⟨fun x y z => pk3 x y z r, tbl3 r0 r1, fun x y z h => ?_, fun x y z => pk3_or x y z r⟩
  have := tbl3 r0 r1 x y z
  rw [List.getElem?_toArray, List.getElem?_eq_getElem h] at this
  exact Option.some.inj this

end Go.Proofs.Ytccggjhmnbebbaa.Draw

/- Steps in a region that draws its order, by hand, of no program: an operation that its guard passes over, one that looks at no memory but the cells that are held. -/
namespace Go.Proofs.Ytccggjhmnbebbaa.Ord
open Go

theorem skipH {P : Program} {md : Region.Mode} {ops : Array Oper} {Q : Exit → Act → World → Prop} {S : World → Prop} {fuel : Nat} {listed : Array Bool} {a : Act} {w : World} (i d : Nat) {oi : Oper}
    (hi : ops[i]? = some oi) (hd : oi.dst = some d) (hs : Region.noSelect ops = true) (hf : Region.free md ops listed i = true) (hr : (Region.ready md ops listed).contains i = true)
    (hQ : ∀ c a w, Q (.panic c) (a.put (some d) undef) w → Q (.panic c) a w) (hw : Region.wanted oi (yielded ops a.tmps) = false) (hS : S w)
    (h : wpAnyH P md ops Q S fuel (listed.setIfInBounds i true) (a.put (some d) undef) w) : wpAnyH P md ops Q S (fuel + 1) listed a w := by
  rw [← hd] at h hQ
  exact wpAnyH_take hi hs hf hr hQ (Or.inr ⟨hw, rfl⟩) hS h

theorem takeH {P : Program} {md : Region.Mode} {ops : Array Oper} {Q : Exit → Act → World → Prop} {S : World → Prop} {fuel : Nat} {listed : Array Bool} {a : Act} {w : World} (i d : Nat) {v : Value} {oi : Oper}
    (hi : ops[i]? = some oi) (hd : oi.dst = some d) (hs : Region.noSelect ops = true) (hf : Region.free md ops listed i = true) (hr : (Region.ready md ops listed).contains i = true)
    (hQ : ∀ c a w, Q (.panic c) (a.put (some d) v) w → Q (.panic c) a w) (hw : Region.wanted oi (yielded ops a.tmps) = true) (hy : ∀ w, S w → (execOp a.eval oi).run P w = .ok (.value v) w) (hS : S w)
    (h : wpAnyH P md ops Q S fuel (listed.setIfInBounds i true) (a.put (some d) v) w) : wpAnyH P md ops Q S (fuel + 1) listed a w := by
  rw [← hd] at h hQ
  exact wpAnyH_take hi hs hf hr hQ (Or.inl ⟨hw, hy⟩) hS h

end Go.Proofs.Ytccggjhmnbebbaa.Ord

/- Contracts of the functions on segments of chapter 2 (impl and spec): what each call returns, as a plain Lean function; nothing that was there is written. -/
namespace Go.Proofs.Ytccggjhmnbebbaa.Seg
open Go.ChangeShapes Go.WideShapes Go.ChangeAt Go.RowKit
open Go.Proofs.Ytccggjhmnbebbaa.Num Go.Proofs.Ytccggjhmnbebbaa.Kit Go.Proofs.Ytccggjhmnbebbaa.Pts
set_option linter.unusedVariables false

abbrev Sg (a b c d : Int) : Value := .agg #[.int .i64 a, .int .i64 b, .int .i64 c, .int .i64 d]

/-- Is a number a valid coordinate? -/
abbrev Co (n : Int) : Prop := -1000000 ≤ n ∧ n ≤ 1000000

/-- Is a segment valid? -/
def sgB (a b c d : Int) : Bool := ptB a b && (ptB c d && !(a == c && b == d))
theorem sgB_yes {a b c d : Int} (h : sgB a b c d = true) : (Co a ∧ Co b ∧ Co c ∧ Co d) ∧ ¬ (a = c ∧ b = d) := by
  unfold sgB at h
  simp only [Bool.and_eq_true, Bool.not_eq_true', Bool.and_eq_false_iff, beq_eq_false_iff_ne] at h
  obtain ⟨h1, h2, h3⟩ := h
  have p := ptB_yes h1; have q := ptB_yes h2
  refine ⟨⟨p.1, p.2, q.1, q.2⟩, fun h => ?_⟩
  rcases h3 with h3 | h3
  · exact h3 h.1
  · exact h3 h.2

theorem sgValid_any (a b c d : Int) (w : World) : Calls Try.prog 44 #[Sg a b c d] w fun e w' => e = .returned (.bool (sgB a b c d)) ∧ Ext w w' := by
  cases h1 : ptB a b
  · have H := Lib.hid (show sgB a b c d = false by unfold sgB; rw [h1]; rfl)
    go_enter Try.func44, Try.ntmps44
    go_wp2_with (go_at_call 28; refine (isValid_any _ _ _).mono ?_; rintro e w1 ⟨rfl, hx⟩; obtain ⟨hc, hf⟩ := hx.facts; have hz := hx.size; (try simp at hz); (try (have hz0 : w.heap.size < w1.heap.size := by omega)); (try (have hz1 : w.heap.size + 1 < w1.heap.size := by omega)); (try (have hz2 : w.heap.size + 1 + 1 < w1.heap.size := by omega)); (try (have hz3 : w.heap.size + 1 + 1 + 1 < w1.heap.size := by omega)))
    go_ret
    exact ⟨ret_bool H.out, (by repeat (first | exact Ext.refl _ | assumption | apply Ext.alloc | apply Ext.drew | (refine Ext.trans ?_ (by assumption)) | (refine Ext.setNew ?_ (by simp <;> omega) _)))⟩
  cases h2 : ptB c d
  · have H := Lib.hid (show sgB a b c d = false by unfold sgB; rw [h1, h2]; rfl)
    go_enter Try.func44, Try.ntmps44
    go_wp2_with (go_at_call 28; refine (isValid_any _ _ _).mono ?_; rintro e w1 ⟨rfl, hx⟩; obtain ⟨hc, hf⟩ := hx.facts; have hz := hx.size; (try simp at hz); (try (have hz0 : w.heap.size < w1.heap.size := by omega)); (try (have hz1 : w.heap.size + 1 < w1.heap.size := by omega)); (try (have hz2 : w.heap.size + 1 + 1 < w1.heap.size := by omega)); (try (have hz3 : w.heap.size + 1 + 1 + 1 < w1.heap.size := by omega)))
    go_ret
    exact ⟨ret_bool H.out, (by repeat (first | exact Ext.refl _ | assumption | apply Ext.alloc | apply Ext.drew | (refine Ext.trans ?_ (by assumption)) | (refine Ext.setNew ?_ (by simp <;> omega) _)))⟩
  · have H := Lib.hid (show sgB a b c d = !(a == c && b == d) by unfold sgB; rw [h1, h2]; rfl)
    cases h3 : (a == c)
    · rw [h3] at H
      go_enter Try.func44, Try.ntmps44
      go_wp2_with (go_at_call 28; refine (isValid_any _ _ _).mono ?_; rintro e w1 ⟨rfl, hx⟩; obtain ⟨hc, hf⟩ := hx.facts; have hz := hx.size; (try simp at hz); (try (have hz0 : w.heap.size < w1.heap.size := by omega)); (try (have hz1 : w.heap.size + 1 < w1.heap.size := by omega)); (try (have hz2 : w.heap.size + 1 + 1 < w1.heap.size := by omega)); (try (have hz3 : w.heap.size + 1 + 1 + 1 < w1.heap.size := by omega)))
      go_ret
      exact ⟨ret_bool H.out, (by repeat (first | exact Ext.refl _ | assumption | apply Ext.alloc | apply Ext.drew | (refine Ext.trans ?_ (by assumption)) | (refine Ext.setNew ?_ (by simp <;> omega) _)))⟩
    · rw [h3] at H
      cases h4 : (b == d)
      · rw [h4] at H
        go_enter Try.func44, Try.ntmps44
        go_wp2_with (go_at_call 28; refine (isValid_any _ _ _).mono ?_; rintro e w1 ⟨rfl, hx⟩; obtain ⟨hc, hf⟩ := hx.facts; have hz := hx.size; (try simp at hz); (try (have hz0 : w.heap.size < w1.heap.size := by omega)); (try (have hz1 : w.heap.size + 1 < w1.heap.size := by omega)); (try (have hz2 : w.heap.size + 1 + 1 < w1.heap.size := by omega)); (try (have hz3 : w.heap.size + 1 + 1 + 1 < w1.heap.size := by omega)))
        go_ret
        exact ⟨ret_bool H.out, (by repeat (first | exact Ext.refl _ | assumption | apply Ext.alloc | apply Ext.drew | (refine Ext.trans ?_ (by assumption)) | (refine Ext.setNew ?_ (by simp <;> omega) _)))⟩
      · rw [h4] at H
        go_enter Try.func44, Try.ntmps44
        go_wp2_with (go_at_call 28; refine (isValid_any _ _ _).mono ?_; rintro e w1 ⟨rfl, hx⟩; obtain ⟨hc, hf⟩ := hx.facts; have hz := hx.size; (try simp at hz); (try (have hz0 : w.heap.size < w1.heap.size := by omega)); (try (have hz1 : w.heap.size + 1 < w1.heap.size := by omega)); (try (have hz2 : w.heap.size + 1 + 1 < w1.heap.size := by omega)); (try (have hz3 : w.heap.size + 1 + 1 + 1 < w1.heap.size := by omega)))
        go_ret
        exact ⟨ret_bool H.out, (by repeat (first | exact Ext.refl _ | assumption | apply Ext.alloc | apply Ext.drew | (refine Ext.trans ?_ (by assumption)) | (refine Ext.setNew ?_ (by simp <;> omega) _)))⟩

theorem vector_any (a b c d : Int) (w : World) (ha : Co a) (hb : Co b) (hc : Co c) (hd : Co d) :
    Calls Try.prog 80 #[Sg a b c d] w fun e w' => e = .returned (Pt (c - a) (d - b)) ∧ Ext w w' := by
  go_enter Try.func80, Try.ntmps80
  go_wp2_with fail
  refine (vectorTo_any _ _ _ _ _ ha hb hc hd).mono ?_
  rintro e w1 ⟨rfl, hx⟩
  have B := Lib.hid ((Box.new2 (w := w.alloc (.cells #[.int .i64 a, .int .i64 b, .int .i64 c, .int .i64 d] 65)) (n := w.heap.size + 1) (x := .int .i64 0) (y := .int .i64 0) (t := 28) (by simp)).ext hx)
  obtain ⟨⟨c0, c1⟩, f0, f1⟩ := B.out.two
  go_wp2
  obtain ⟨⟨g0, g1⟩, _, _⟩ := (B.out.set2 (u := .int .i64 (c - a)) (v := .int .i64 (d - b))).two
  exact bodyPost_ret (v := Pt (c - a) (d - b)) (by simp [results, Try.results80, go_sem, g0, g1]) rfl ⟨rfl, (by repeat (first | exact Ext.refl _ | assumption | apply Ext.alloc | apply Ext.drew | (refine Ext.trans ?_ (by assumption)) | (refine Ext.setNew ?_ (by simp <;> omega) _)))⟩

/-- Twice the area of the triangle of a segment and a point, with its sign. -/
def crs (a b c d p q : Int) : Int := (c - a) * (q - b) - (d - b) * (p - a)

theorem turnTo_any (a b c d p q : Int) (w : World) (ha : Co a) (hb : Co b) (hc : Co c) (hd : Co d) (hp : Co p) (hq : Co q) :
    Calls Try.prog 79 #[Sg a b c d, Pt p q] w fun e w' => e = .returned (.int .i64 (crs a b c d p q)) ∧ Ext w w' := by
  have H := Lib.hid (show crs a b c d p q = (c - a) * (q - b) - (d - b) * (p - a) from rfl)
  go_enter Try.func79, Try.ntmps79
  go_wp2_with fail
  go_region_held3 (fun w' => w'.cell? ⟨w.heap.size, 0, none⟩ = some (.int .i64 a) ∧ w'.cell? ⟨w.heap.size, 1, none⟩ = some (.int .i64 b) ∧ w'.cell? ⟨w.heap.size, 2, none⟩ = some (.int .i64 c) ∧ w'.cell? ⟨w.heap.size, 3, none⟩ = some (.int .i64 d) ∧ w'.cell? ⟨w.heap.size + 1, 0, none⟩ = some (.int .i64 p) ∧ w'.cell? ⟨w.heap.size + 1, 1, none⟩ = some (.int .i64 q))
    (first | go_keep | (go_split_ands; refine ⟨?_, ?_, ?_, ?_, ?_, ?_⟩ <;> exact Ext.cellOf hx (by assumption)))
    (first | (go_at_call 80; refine (vector_any _ _ _ _ _ (by omega) (by omega) (by omega) (by omega)).mono ?_; rintro e w1 ⟨rfl, hx⟩) | (go_at_call 95; refine (vectorTo_any _ _ _ _ _ (by omega) (by omega) (by omega) (by omega)).mono ?_; rintro e w1 ⟨rfl, hx⟩) | (go_at_call 94; refine (cross_any _ _ _ _ _ (by omega) (by omega) (by omega) (by omega)).mono ?_; rintro e w1 ⟨rfl, hx⟩))
  all_goals
    go_wp2
    go_ret
    exact ⟨ret_int H.out, (by repeat (first | exact Ext.refl _ | assumption | apply Ext.alloc | apply Ext.drew | (refine Ext.trans ?_ (by assumption)) | (refine Ext.setNew ?_ (by simp <;> omega) _)))⟩

/-! ### laws -/
end Go.Proofs.Ytccggjhmnbebbaa.Seg

/- The contract of laws.big: is a code longer than 4096 bytes? -/
namespace Go.Proofs.Ytccggjhmnbebbaa.Draw
open Go.ChangeShapes Go.WideShapes Go.ChangeAt Go.RowKit
open Go.Proofs.Ytccggjhmnbebbaa.Kit Go.Proofs.Ytccggjhmnbebbaa.Num
set_option linter.unusedVariables false

def bigB (len : Nat) : Bool := decide (4096 < len)

theorem big_any (a : Option Addr) (len cap : Nat) (w : World) : Calls Try.prog 6 #[.slice a len cap] w fun e w' => e = .returned (.bool (bigB len)) ∧ w = w' := by
  have H := Lib.hid (show bigB len = decide (4096 < (len : Int)) by unfold bigB; rw [decide_eq_decide]; omega)
  go_enter Try.func6, Try.ntmps6
  go_wp2
  go_ret
  exact ⟨ret_bool H.out, rfl⟩

end Go.Proofs.Ytccggjhmnbebbaa.Draw

/- Contracts of IsTrack (impl, spec): is a track valid? -/
namespace Go.Proofs.Ytccggjhmnbebbaa.Trk
open Go.ChangeShapes Go.WideShapes Go.ChangeAt Go.RowKit
open Go.Proofs.Ytccggjhmnbebbaa.Num Go.Proofs.Ytccggjhmnbebbaa.Kit Go.Proofs.Ytccggjhmnbebbaa.Pts
set_option linter.unusedVariables false
set_option linter.unusedSimpArgs false

/-- Is a number a valid time? -/
def tmB (n : Int) : Bool := inB n 0 1000000000
/-- Is a fix valid? -/
def fxB (f : F3) : Bool := tmB f.t && ptB f.x f.y
/-- Is the fix number k valid, and later than the one before it? -/
def okB (fs : List F3) (k : Nat) : Bool := fxB (fx fs k) && (decide (k = 0) || decide ((fx fs (k - 1)).t < (fx fs k).t))
/-- Is a track valid? -/
def trB (fs : List F3) : Bool := decide (2 ≤ fs.length) && (decide (fs.length ≤ 40) && (List.range fs.length).all (okB fs))

theorem trB_short {fs : List F3} (h : fs.length < 2) : trB fs = false := by unfold trB; rw [decide_eq_false (by omega)]; rfl
theorem trB_long {fs : List F3} (h : 40 < fs.length) : trB fs = false := by unfold trB; rw [decide_eq_false (p := fs.length ≤ 40) (by omega)]; simp
theorem trB_no {fs : List F3} {k : Nat} (hk : k < fs.length) (h : okB fs k = false) : trB fs = false := by
  unfold trB
  rw [show (List.range fs.length).all (okB fs) = false from List.all_eq_false.2 ⟨k, by simpa using hk, by simp [h]⟩]; simp
theorem trB_all {fs : List F3} (h2 : 2 ≤ fs.length) (h40 : fs.length ≤ 40) (h : ∀ k, k < fs.length → okB fs k = true) : trB fs = true := by
  unfold trB
  rw [decide_eq_true h2, decide_eq_true h40, show (List.range fs.length).all (okB fs) = true from List.all_eq_true.2 fun k hk => h k (by simpa using hk)]; rfl
theorem trB_yes {fs : List F3} (h : trB fs = true) : (2 ≤ fs.length ∧ fs.length ≤ 40) ∧ ∀ k, k < fs.length → okB fs k = true := by
  unfold trB at h
  simp only [Bool.and_eq_true, decide_eq_true_eq] at h
  exact ⟨⟨h.1, h.2.1⟩, fun k hk => List.all_eq_true.1 h.2.2 k (by simpa using hk)⟩

theorem isTime_any (n : Int) (w : World) : Calls Try.prog 72 #[.int .i64 n] w fun e w' => e = .returned (.bool (tmB n)) ∧ w = w' := by
  by_cases h1 : 0 ≤ n
  · by_cases h2 : n ≤ 1000000000
    · have H := Lib.hid (show tmB n = true from inB_yes h1 h2)
      go_enter Try.func72, Try.ntmps72
      go_wp2
      go_ret
      exact ⟨ret_bool H.out, rfl⟩
    · have H := Lib.hid (show tmB n = false from inB_no (fun h => h2 h.2))
      go_enter Try.func72, Try.ntmps72
      go_wp2
      go_ret
      exact ⟨ret_bool H.out, rfl⟩
  · have H := Lib.hid (show tmB n = false from inB_no (fun h => h1 h.1))
    go_enter Try.func72, Try.ntmps72
    go_wp2
    go_ret
    exact ⟨ret_bool H.out, rfl⟩

theorem point_impl (t x y : Int) (w : World) : Calls Try.prog 56 #[Fx t x y] w fun e w' => e = .returned (Pt x y) ∧ Ext w w' := by
  go_enter Try.func56, Try.ntmps56
  go_wp2
  exact bodyPost_ret (v := Pt x y) (by simp [results, Try.results56, go_sem]) rfl ⟨rfl, (by repeat (first | exact Ext.refl _ | assumption | apply Ext.alloc | apply Ext.drew | (refine Ext.trans ?_ (by assumption)) | (refine Ext.setNew ?_ (by simp <;> omega) _)))⟩
theorem point_spec (t x y : Int) (w : World) : Calls Try.prog 47 #[Fx t x y] w fun e w' => e = .returned (Pt x y) ∧ Ext w w' := by
  go_enter Try.func47, Try.ntmps47
  go_wp2
  exact bodyPost_ret (v := Pt x y) (by simp [results, Try.results47, go_sem]) rfl ⟨rfl, (by repeat (first | exact Ext.refl _ | assumption | apply Ext.alloc | apply Ext.drew | (refine Ext.trans ?_ (by assumption)) | (refine Ext.setNew ?_ (by simp <;> omega) _)))⟩

theorem fixValid_any (t x y : Int) (w : World) : Calls Try.prog 43 #[Fx t x y] w fun e w' => e = .returned (.bool (fxB ⟨t, x, y⟩)) ∧ Ext w w' := by
  cases h : tmB t
  · have H := Lib.hid (show fxB ⟨t, x, y⟩ = false by unfold fxB; rw [h]; rfl)
    go_enter Try.func43, Try.ntmps43
    go_wp2_with (first | (go_at_call 72; refine (isTime_any _ _).mono ?_; rintro e w' ⟨rfl, rfl⟩))
    go_ret
    exact ⟨ret_bool H.out, (by repeat (first | exact Ext.refl _ | assumption | apply Ext.alloc | apply Ext.drew | (refine Ext.trans ?_ (by assumption)) | (refine Ext.setNew ?_ (by simp <;> omega) _)))⟩
  · have H := Lib.hid (show fxB ⟨t, x, y⟩ = ptB x y by unfold fxB; rw [h]; rfl)
    go_enter Try.func43, Try.ntmps43
    go_wp2_with (first | (go_at_call 72; refine (isTime_any _ _).mono ?_; rintro e w' ⟨rfl, rfl⟩) | (go_at_call 56; refine (point_impl _ _ _ _).mono ?_; rintro e w1 ⟨rfl, hx⟩) | (go_at_call 28; refine (isValid_any _ _ _).mono ?_; rintro e w2 ⟨rfl, hx2⟩))
    go_ret
    exact ⟨ret_bool H.out, (by repeat (first | exact Ext.refl _ | assumption | apply Ext.alloc | apply Ext.drew | (refine Ext.trans ?_ (by assumption)) | (refine Ext.setNew ?_ (by simp <;> omega) _)))⟩

theorem fixValid_of (f : F3) (w : World) : Calls Try.prog 43 #[Fx f.t f.x f.y] w fun e w' => e = .returned (.bool (fxB f)) ∧ Ext w w' := fixValid_any f.t f.x f.y w

/-- What the loops keep: the first fixes are valid. -/
def RelV (w : World) (fs : List F3) (i : Value) (wr : World) : Prop := ∃ k : Nat, i = .int .i64 k ∧ k ≤ fs.length ∧ (∀ j, j < k → okB fs j = true) ∧ Ext w wr

theorem okB_time {fs : List F3} {k : Nat} (h : fxB (fx fs k) = false) : okB fs k = false := by unfold okB; rw [h]; rfl
theorem okB_zero {fs : List F3} (h : fxB (fx fs 0) = true) : okB fs 0 = true := by unfold okB; rw [h]; rfl
theorem okB_succ {fs : List F3} {k : Nat} (h : fxB (fx fs (k + 1)) = true) : okB fs (k + 1) = decide ((fx fs k).t < (fx fs (k + 1)).t) := by unfold okB; rw [h]; simp

theorem RelV.step {w wr w' : World} {fs : List F3} {k : Nat} (hd : ∀ j, j < k → okB fs j = true) (hk : k < fs.length) (h : okB fs k = true) (hx : Ext w wr) (hy : Ext wr w') : RelV w fs (.int .i64 (k + 1)) w' :=
  ⟨k + 1, by go_num, by omega, fun j hj => by rcases Nat.lt_or_ge j k with g | g; exact hd j g; exact (show j = k by omega) ▸ h, hx.trans hy⟩

set_option maxHeartbeats 1000000 in
theorem trackValid_any (a : Option Addr) (cap : Nat) (fs : List F3) (w : World) (hf : Fxs w a fs) : Calls Try.prog 22 #[Tr (.slice a fs.length cap)] w fun e w' => e = .returned (.bool (trB fs)) ∧ Ext w w' := by
  have hm := hf.1
  unfold maxLen at hm
  have HF := Lib.hid hf
  clear hf
  by_cases h2 : fs.length < 2
  · have H := Lib.hid (trB_short h2)
    go_enter Try.func22, Try.ntmps22
    go_wp2
    go_ret
    exact ⟨ret_bool H.out, (by repeat (first | exact Ext.refl _ | assumption | apply Ext.alloc | apply Ext.drew | (refine Ext.trans ?_ (by assumption)) | (refine Ext.setNew ?_ (by simp <;> omega) _)))⟩
  by_cases h40 : 40 < fs.length
  · have H := Lib.hid (trB_long h40)
    go_enter Try.func22, Try.ntmps22
    go_wp2
    go_ret
    exact ⟨ret_bool H.out, (by repeat (first | exact Ext.refl _ | assumption | apply Ext.alloc | apply Ext.drew | (refine Ext.trans ?_ (by assumption)) | (refine Ext.setNew ?_ (by simp <;> omega) _)))⟩
  have q2 : decide ((fs.length : Int) < 2) = false := decide_eq_false (by omega)
  have q40 : decide (40 < (fs.length : Int)) = false := decide_eq_false (by omega)
  go_enter Try.func22, Try.ntmps22
  go_wp2
  go_loopw [18] (fun i wr => RelV (w.alloc (.cells #[.slice a fs.length cap] 26)) fs i wr) (fun i _ => fs.length - (intOf i).toNat)
  case atStart => exact ⟨0, rfl, Nat.zero_le _, fun j hj => absurd hj (by omega), Ext.refl _⟩
  case round =>
    obtain ⟨k, rfl, hk, hd, hx⟩ := hrel
    have HD := Lib.hid hd
    have HX := Lib.hid hx
    have bx : wr.cell? ⟨w.heap.size, 0, none⟩ = some (.slice a fs.length cap) := hx.cellOf (boxed 0 rfl rfl)
    clear hd hx
    by_cases hk1 : k < fs.length
    · rcases HF.out.2 with h0 | ⟨b, off, rfl, hb⟩
      · rw [h0] at hk1; simp at hk1
      have HB := Lib.hid hb
      clear hb
      obtain ⟨c0, c1, c2⟩ := ((HB.out k hk1).ext ((Ext.refl _).alloc _)).ext HX.out
      have i0 : (0 : Int) ≤ (k : Int) := by omega
      have i1 : (k : Int) < (fs.length : Int) := by omega
      cases hv : fxB (fx fs k)
      · have H := Lib.hid (trB_no hk1 (okB_time hv))
        go_wp2_with fail
        refine wp_region_held_drew (S := (fun w' => w'.cell? ⟨wr.heap.size, 0, none⟩ = some (.int .i64 (fx fs k).t) ∧ w'.cell? ⟨wr.heap.size, 1, none⟩ = some (.int .i64 (fx fs k).x) ∧ w'.cell? ⟨wr.heap.size, 2, none⟩ = some (.int .i64 (fx fs k).y) ∧ w'.cell? ⟨w.heap.size, 0, none⟩ = some (.slice (some ⟨b, off, none⟩) fs.length cap))) (by kernel_rfl) (by (try dsimp only); first | go_keep | exact (Ext.refl _).drew | exact Res.new2.drew | exact Res.new4.drew | exact ResB.drew (by assumption) | exact ResC.drew (by assumption) | assumption | exact Ext.drew (by assumption) | exact Res.drew (by assumption)) (fun hHeld => ?_)
        (refine Ord.takeH 0 23 (v := ?_) rfl rfl (by kernel_rfl) (by kernel_rfl) (by kernel_rfl) (fun _ _ _ h => h) (by rfl) ?_ (by assumption) ?_; rotate_left; (intro w hSw; (try dsimp only at hSw); go_simp; (first | done | with_reducible rfl)); (try simp only [Act.put, List.setIfInBounds_toArray, List.set_cons_zero, List.set_cons_succ]))
        (refine wpAnyH_ready (rs := [1]) (by kernel_rfl) (by simp) ?_; refine AllReadyH.cons rfl (fun K hK => ?_) AllReadyH.nil; go_simp; (go_at_call 43; refine (fixValid_of _ _).mono ?_; rintro e w1 ⟨rfl, hy⟩); go_wp2_with fail; (refine hK.out _ _ (by first | assumption | exact Ext.trans (by assumption) hy | exact Res.ext (by assumption) hy | exact ResB.ext (by assumption) hy | exact ResC.ext (by assumption) hy | (go_split_ands; (repeat' apply And.intro) <;> exact Ext.cellOf hy (by assumption))) (fun hHeld => ?_)); clear hK K; (try simp only [Act.put, List.setIfInBounds_toArray, List.set_cons_zero, List.set_cons_succ]))
        (refine Ord.takeH 2 25 (v := ?_) rfl rfl (by kernel_rfl) (by kernel_rfl) (by kernel_rfl) (fun _ _ _ h => h) (by rfl) ?_ (by assumption) ?_; rotate_left; (intro w hSw; (try dsimp only at hSw); go_simp; (first | done | with_reducible rfl)); (try simp only [Act.put, List.setIfInBounds_toArray, List.set_cons_zero, List.set_cons_succ]))
        (refine Ord.takeH 3 26 (v := ?_) rfl rfl (by kernel_rfl) (by kernel_rfl) (by kernel_rfl) (fun _ _ _ h => h) (by rfl) ?_ (by assumption) ?_; rotate_left; (intro w hSw; (try dsimp only at hSw); go_simp; (first | done | with_reducible rfl)); (try simp only [Act.put, List.setIfInBounds_toArray, List.set_cons_zero, List.set_cons_succ]))
        (first | (refine Ord.skipH 4 27 rfl rfl (by kernel_rfl) (by kernel_rfl) (by kernel_rfl) (fun _ _ _ h => h) ?_ (by assumption) ?_; rfl; (try simp only [Act.put, List.setIfInBounds_toArray, List.set_cons_zero, List.set_cons_succ])) | (refine Ord.takeH 4 27 (v := ?_) rfl rfl (by kernel_rfl) (by kernel_rfl) (by kernel_rfl) (fun _ _ _ h => h) (by rfl) ?_ (by assumption) ?_; rotate_left; (intro w hSw; (try dsimp only at hSw); go_simp; (first | done | with_reducible rfl)); (try simp only [Act.put, List.setIfInBounds_toArray, List.set_cons_zero, List.set_cons_succ])))
        (first | (refine Ord.skipH 5 28 rfl rfl (by kernel_rfl) (by kernel_rfl) (by kernel_rfl) (fun _ _ _ h => h) ?_ (by assumption) ?_; rfl; (try simp only [Act.put, List.setIfInBounds_toArray, List.set_cons_zero, List.set_cons_succ])) | (refine Ord.takeH 5 28 (v := ?_) rfl rfl (by kernel_rfl) (by kernel_rfl) (by kernel_rfl) (fun _ _ _ h => h) (by rfl) ?_ (by assumption) ?_; rotate_left; (intro w hSw; (try dsimp only at hSw); go_simp; (first | done | with_reducible rfl)); (try simp only [Act.put, List.setIfInBounds_toArray, List.set_cons_zero, List.set_cons_succ])))
        (first | (refine Ord.skipH 6 29 rfl rfl (by kernel_rfl) (by kernel_rfl) (by kernel_rfl) (fun _ _ _ h => h) ?_ (by assumption) ?_; rfl; (try simp only [Act.put, List.setIfInBounds_toArray, List.set_cons_zero, List.set_cons_succ])) | (refine Ord.takeH 6 29 (v := ?_) rfl rfl (by kernel_rfl) (by kernel_rfl) (by kernel_rfl) (fun _ _ _ h => h) (by rfl) ?_ (by assumption) ?_; rotate_left; (intro w hSw; (try dsimp only at hSw); go_simp; (first | done | with_reducible rfl)); (try simp only [Act.put, List.setIfInBounds_toArray, List.set_cons_zero, List.set_cons_succ])))
        (first | (refine Ord.skipH 7 30 rfl rfl (by kernel_rfl) (by kernel_rfl) (by kernel_rfl) (fun _ _ _ h => h) ?_ (by assumption) ?_; rfl; (try simp only [Act.put, List.setIfInBounds_toArray, List.set_cons_zero, List.set_cons_succ])) | (refine Ord.takeH 7 30 (v := ?_) rfl rfl (by kernel_rfl) (by kernel_rfl) (by kernel_rfl) (fun _ _ _ h => h) (by rfl) ?_ (by assumption) ?_; rotate_left; (intro w hSw; (try dsimp only at hSw); go_simp; (first | done | with_reducible rfl)); (try simp only [Act.put, List.setIfInBounds_toArray, List.set_cons_zero, List.set_cons_succ])))
        (first | (refine Ord.skipH 8 31 rfl rfl (by kernel_rfl) (by kernel_rfl) (by kernel_rfl) (fun _ _ _ h => h) ?_ (by assumption) ?_; rfl; (try simp only [Act.put, List.setIfInBounds_toArray, List.set_cons_zero, List.set_cons_succ])) | (refine Ord.takeH 8 31 (v := ?_) rfl rfl (by kernel_rfl) (by kernel_rfl) (by kernel_rfl) (fun _ _ _ h => h) (by rfl) ?_ (by assumption) ?_; rotate_left; (intro w hSw; (try dsimp only at hSw); go_simp; (first | done | with_reducible rfl)); (try simp only [Act.put, List.setIfInBounds_toArray, List.set_cons_zero, List.set_cons_succ])))
        (first | (refine Ord.skipH 9 32 rfl rfl (by kernel_rfl) (by kernel_rfl) (by kernel_rfl) (fun _ _ _ h => h) ?_ (by assumption) ?_; rfl; (try simp only [Act.put, List.setIfInBounds_toArray, List.set_cons_zero, List.set_cons_succ])) | (refine Ord.takeH 9 32 (v := ?_) rfl rfl (by kernel_rfl) (by kernel_rfl) (by kernel_rfl) (fun _ _ _ h => h) (by rfl) ?_ (by assumption) ?_; rotate_left; (intro w hSw; (try dsimp only at hSw); go_simp; (first | done | with_reducible rfl)); (try simp only [Act.put, List.setIfInBounds_toArray, List.set_cons_zero, List.set_cons_succ])))
        (first | (refine Ord.skipH 10 33 rfl rfl (by kernel_rfl) (by kernel_rfl) (by kernel_rfl) (fun _ _ _ h => h) ?_ (by assumption) ?_; rfl; (try simp only [Act.put, List.setIfInBounds_toArray, List.set_cons_zero, List.set_cons_succ])) | (refine Ord.takeH 10 33 (v := ?_) rfl rfl (by kernel_rfl) (by kernel_rfl) (by kernel_rfl) (fun _ _ _ h => h) (by rfl) ?_ (by assumption) ?_; rotate_left; (intro w hSw; (try dsimp only at hSw); go_simp; (first | done | with_reducible rfl)); (try simp only [Act.put, List.setIfInBounds_toArray, List.set_cons_zero, List.set_cons_succ])))
        (first | (refine Ord.skipH 11 34 rfl rfl (by kernel_rfl) (by kernel_rfl) (by kernel_rfl) (fun _ _ _ h => h) ?_ (by assumption) ?_; rfl; (try simp only [Act.put, List.setIfInBounds_toArray, List.set_cons_zero, List.set_cons_succ])) | (refine Ord.takeH 11 34 (v := ?_) rfl rfl (by kernel_rfl) (by kernel_rfl) (by kernel_rfl) (fun _ _ _ h => h) (by rfl) ?_ (by assumption) ?_; rotate_left; (intro w hSw; (try dsimp only at hSw); go_simp; (first | done | with_reducible rfl)); (try simp only [Act.put, List.setIfInBounds_toArray, List.set_cons_zero, List.set_cons_succ])))
        (first | (refine Ord.skipH 12 35 rfl rfl (by kernel_rfl) (by kernel_rfl) (by kernel_rfl) (fun _ _ _ h => h) ?_ (by assumption) ?_; rfl; (try simp only [Act.put, List.setIfInBounds_toArray, List.set_cons_zero, List.set_cons_succ])) | (refine Ord.takeH 12 35 (v := ?_) rfl rfl (by kernel_rfl) (by kernel_rfl) (by kernel_rfl) (fun _ _ _ h => h) (by rfl) ?_ (by assumption) ?_; rotate_left; (intro w hSw; (try dsimp only at hSw); go_simp; (first | done | with_reducible rfl)); (try simp only [Act.put, List.setIfInBounds_toArray, List.set_cons_zero, List.set_cons_succ])))
        (first | (refine Ord.skipH 13 36 rfl rfl (by kernel_rfl) (by kernel_rfl) (by kernel_rfl) (fun _ _ _ h => h) ?_ (by assumption) ?_; rfl; (try simp only [Act.put, List.setIfInBounds_toArray, List.set_cons_zero, List.set_cons_succ])) | (refine Ord.takeH 13 36 (v := ?_) rfl rfl (by kernel_rfl) (by kernel_rfl) (by kernel_rfl) (fun _ _ _ h => h) (by rfl) ?_ (by assumption) ?_; rotate_left; (intro w hSw; (try dsimp only at hSw); go_simp; (first | done | with_reducible rfl)); (try simp only [Act.put, List.setIfInBounds_toArray, List.set_cons_zero, List.set_cons_succ])))
        (first | (refine Ord.skipH 14 37 rfl rfl (by kernel_rfl) (by kernel_rfl) (by kernel_rfl) (fun _ _ _ h => h) ?_ (by assumption) ?_; rfl; (try simp only [Act.put, List.setIfInBounds_toArray, List.set_cons_zero, List.set_cons_succ])) | (refine Ord.takeH 14 37 (v := ?_) rfl rfl (by kernel_rfl) (by kernel_rfl) (by kernel_rfl) (fun _ _ _ h => h) (by rfl) ?_ (by assumption) ?_; rotate_left; (intro w hSw; (try dsimp only at hSw); go_simp; (first | done | with_reducible rfl)); (try simp only [Act.put, List.setIfInBounds_toArray, List.set_cons_zero, List.set_cons_succ])))
        (first | (refine Ord.skipH 15 38 rfl rfl (by kernel_rfl) (by kernel_rfl) (by kernel_rfl) (fun _ _ _ h => h) ?_ (by assumption) ?_; rfl; (try simp only [Act.put, List.setIfInBounds_toArray, List.set_cons_zero, List.set_cons_succ])) | (refine Ord.takeH 15 38 (v := ?_) rfl rfl (by kernel_rfl) (by kernel_rfl) (by kernel_rfl) (fun _ _ _ h => h) (by rfl) ?_ (by assumption) ?_; rotate_left; (intro w hSw; (try dsimp only at hSw); go_simp; (first | done | with_reducible rfl)); (try simp only [Act.put, List.setIfInBounds_toArray, List.set_cons_zero, List.set_cons_succ])))
        (first | (refine Ord.skipH 16 39 rfl rfl (by kernel_rfl) (by kernel_rfl) (by kernel_rfl) (fun _ _ _ h => h) ?_ (by assumption) ?_; rfl; (try simp only [Act.put, List.setIfInBounds_toArray, List.set_cons_zero, List.set_cons_succ])) | (refine Ord.takeH 16 39 (v := ?_) rfl rfl (by kernel_rfl) (by kernel_rfl) (by kernel_rfl) (fun _ _ _ h => h) (by rfl) ?_ (by assumption) ?_; rotate_left; (intro w hSw; (try dsimp only at hSw); go_simp; (first | done | with_reducible rfl)); (try simp only [Act.put, List.setIfInBounds_toArray, List.set_cons_zero, List.set_cons_succ])))
        (first | (refine Ord.skipH 17 40 rfl rfl (by kernel_rfl) (by kernel_rfl) (by kernel_rfl) (fun _ _ _ h => h) ?_ (by assumption) ?_; rfl; (try simp only [Act.put, List.setIfInBounds_toArray, List.set_cons_zero, List.set_cons_succ])) | (refine Ord.takeH 17 40 (v := ?_) rfl rfl (by kernel_rfl) (by kernel_rfl) (by kernel_rfl) (fun _ _ _ h => h) (by rfl) ?_ (by assumption) ?_; rotate_left; (intro w hSw; (try dsimp only at hSw); go_simp; (first | done | with_reducible rfl)); (try simp only [Act.put, List.setIfInBounds_toArray, List.set_cons_zero, List.set_cons_succ])))
        (refine Ord.takeH 18 41 (v := ?_) rfl rfl (by kernel_rfl) (by kernel_rfl) (by kernel_rfl) (fun _ _ _ h => h) (by rfl) ?_ (by assumption) ?_; rotate_left; (intro w hSw; (try dsimp only at hSw); go_simp; (first | done | with_reducible rfl)); (try simp only [Act.put, List.setIfInBounds_toArray, List.set_cons_zero, List.set_cons_succ]))
        refine wpAnyH_done (by kernel_rfl) ?_ _
        go_wp2
        go_ret
        exact ⟨ret_bool H.out, ((Ext.refl _).alloc _).trans (HX.out.trans (by repeat (first | exact Ext.refl _ | assumption | apply Ext.alloc | apply Ext.drew | (refine Ext.trans ?_ (by assumption)) | (refine Ext.setNew ?_ (by simp <;> omega) _))))⟩
      · by_cases hk0 : k = 0
        · have H := Lib.hid (show okB fs k = true by rw [hk0] at hv ⊢; exact okB_zero hv)
          have HK := Lib.hid hk0
          have z0 : decide (0 < k) = false := decide_eq_false (by omega)
          have z1 : decide ((0 : Int) < (k : Int)) = false := decide_eq_false (by omega)
          clear hk0
          go_wp2_with fail
          refine wp_region_held_drew (S := (fun w' => w'.cell? ⟨wr.heap.size, 0, none⟩ = some (.int .i64 (fx fs k).t) ∧ w'.cell? ⟨wr.heap.size, 1, none⟩ = some (.int .i64 (fx fs k).x) ∧ w'.cell? ⟨wr.heap.size, 2, none⟩ = some (.int .i64 (fx fs k).y) ∧ w'.cell? ⟨w.heap.size, 0, none⟩ = some (.slice (some ⟨b, off, none⟩) fs.length cap))) (by kernel_rfl) (by (try dsimp only); first | go_keep | exact (Ext.refl _).drew | exact Res.new2.drew | exact Res.new4.drew | exact ResB.drew (by assumption) | exact ResC.drew (by assumption) | assumption | exact Ext.drew (by assumption) | exact Res.drew (by assumption)) (fun hHeld => ?_)
          (refine Ord.takeH 0 23 (v := ?_) rfl rfl (by kernel_rfl) (by kernel_rfl) (by kernel_rfl) (fun _ _ _ h => h) (by rfl) ?_ (by assumption) ?_; rotate_left; (intro w hSw; (try dsimp only at hSw); go_simp; (first | done | with_reducible rfl)); (try simp only [Act.put, List.setIfInBounds_toArray, List.set_cons_zero, List.set_cons_succ]))
          (refine wpAnyH_ready (rs := [1]) (by kernel_rfl) (by simp) ?_; refine AllReadyH.cons rfl (fun K hK => ?_) AllReadyH.nil; go_simp; (go_at_call 43; refine (fixValid_of _ _).mono ?_; rintro e w1 ⟨rfl, hy⟩); go_wp2_with fail; (refine hK.out _ _ (by first | assumption | exact Ext.trans (by assumption) hy | exact Res.ext (by assumption) hy | exact ResB.ext (by assumption) hy | exact ResC.ext (by assumption) hy | (go_split_ands; (repeat' apply And.intro) <;> exact Ext.cellOf hy (by assumption))) (fun hHeld => ?_)); clear hK K; (try simp only [Act.put, List.setIfInBounds_toArray, List.set_cons_zero, List.set_cons_succ]))
          (refine Ord.takeH 2 25 (v := ?_) rfl rfl (by kernel_rfl) (by kernel_rfl) (by kernel_rfl) (fun _ _ _ h => h) (by rfl) ?_ (by assumption) ?_; rotate_left; (intro w hSw; (try dsimp only at hSw); go_simp; (first | done | with_reducible rfl)); (try simp only [Act.put, List.setIfInBounds_toArray, List.set_cons_zero, List.set_cons_succ]))
          (refine Ord.takeH 3 26 (v := ?_) rfl rfl (by kernel_rfl) (by kernel_rfl) (by kernel_rfl) (fun _ _ _ h => h) (by rfl) ?_ (by assumption) ?_; rotate_left; (intro w hSw; (try dsimp only at hSw); go_simp; (first | done | with_reducible rfl)); (try simp only [Act.put, List.setIfInBounds_toArray, List.set_cons_zero, List.set_cons_succ]))
          (first | (refine Ord.skipH 4 27 rfl rfl (by kernel_rfl) (by kernel_rfl) (by kernel_rfl) (fun _ _ _ h => h) ?_ (by assumption) ?_; rfl; (try simp only [Act.put, List.setIfInBounds_toArray, List.set_cons_zero, List.set_cons_succ])) | (refine Ord.takeH 4 27 (v := ?_) rfl rfl (by kernel_rfl) (by kernel_rfl) (by kernel_rfl) (fun _ _ _ h => h) (by rfl) ?_ (by assumption) ?_; rotate_left; (intro w hSw; (try dsimp only at hSw); go_simp; (first | done | with_reducible rfl)); (try simp only [Act.put, List.setIfInBounds_toArray, List.set_cons_zero, List.set_cons_succ])))
          (first | (refine Ord.skipH 5 28 rfl rfl (by kernel_rfl) (by kernel_rfl) (by kernel_rfl) (fun _ _ _ h => h) ?_ (by assumption) ?_; rfl; (try simp only [Act.put, List.setIfInBounds_toArray, List.set_cons_zero, List.set_cons_succ])) | (refine Ord.takeH 5 28 (v := ?_) rfl rfl (by kernel_rfl) (by kernel_rfl) (by kernel_rfl) (fun _ _ _ h => h) (by rfl) ?_ (by assumption) ?_; rotate_left; (intro w hSw; (try dsimp only at hSw); go_simp; (first | done | with_reducible rfl)); (try simp only [Act.put, List.setIfInBounds_toArray, List.set_cons_zero, List.set_cons_succ])))
          (first | (refine Ord.skipH 6 29 rfl rfl (by kernel_rfl) (by kernel_rfl) (by kernel_rfl) (fun _ _ _ h => h) ?_ (by assumption) ?_; rfl; (try simp only [Act.put, List.setIfInBounds_toArray, List.set_cons_zero, List.set_cons_succ])) | (refine Ord.takeH 6 29 (v := ?_) rfl rfl (by kernel_rfl) (by kernel_rfl) (by kernel_rfl) (fun _ _ _ h => h) (by rfl) ?_ (by assumption) ?_; rotate_left; (intro w hSw; (try dsimp only at hSw); go_simp; (first | done | with_reducible rfl)); (try simp only [Act.put, List.setIfInBounds_toArray, List.set_cons_zero, List.set_cons_succ])))
          (first | (refine Ord.skipH 7 30 rfl rfl (by kernel_rfl) (by kernel_rfl) (by kernel_rfl) (fun _ _ _ h => h) ?_ (by assumption) ?_; rfl; (try simp only [Act.put, List.setIfInBounds_toArray, List.set_cons_zero, List.set_cons_succ])) | (refine Ord.takeH 7 30 (v := ?_) rfl rfl (by kernel_rfl) (by kernel_rfl) (by kernel_rfl) (fun _ _ _ h => h) (by rfl) ?_ (by assumption) ?_; rotate_left; (intro w hSw; (try dsimp only at hSw); go_simp; (first | done | with_reducible rfl)); (try simp only [Act.put, List.setIfInBounds_toArray, List.set_cons_zero, List.set_cons_succ])))
          (first | (refine Ord.skipH 8 31 rfl rfl (by kernel_rfl) (by kernel_rfl) (by kernel_rfl) (fun _ _ _ h => h) ?_ (by assumption) ?_; rfl; (try simp only [Act.put, List.setIfInBounds_toArray, List.set_cons_zero, List.set_cons_succ])) | (refine Ord.takeH 8 31 (v := ?_) rfl rfl (by kernel_rfl) (by kernel_rfl) (by kernel_rfl) (fun _ _ _ h => h) (by rfl) ?_ (by assumption) ?_; rotate_left; (intro w hSw; (try dsimp only at hSw); go_simp; (first | done | with_reducible rfl)); (try simp only [Act.put, List.setIfInBounds_toArray, List.set_cons_zero, List.set_cons_succ])))
          (first | (refine Ord.skipH 9 32 rfl rfl (by kernel_rfl) (by kernel_rfl) (by kernel_rfl) (fun _ _ _ h => h) ?_ (by assumption) ?_; rfl; (try simp only [Act.put, List.setIfInBounds_toArray, List.set_cons_zero, List.set_cons_succ])) | (refine Ord.takeH 9 32 (v := ?_) rfl rfl (by kernel_rfl) (by kernel_rfl) (by kernel_rfl) (fun _ _ _ h => h) (by rfl) ?_ (by assumption) ?_; rotate_left; (intro w hSw; (try dsimp only at hSw); go_simp; (first | done | with_reducible rfl)); (try simp only [Act.put, List.setIfInBounds_toArray, List.set_cons_zero, List.set_cons_succ])))
          (first | (refine Ord.skipH 10 33 rfl rfl (by kernel_rfl) (by kernel_rfl) (by kernel_rfl) (fun _ _ _ h => h) ?_ (by assumption) ?_; rfl; (try simp only [Act.put, List.setIfInBounds_toArray, List.set_cons_zero, List.set_cons_succ])) | (refine Ord.takeH 10 33 (v := ?_) rfl rfl (by kernel_rfl) (by kernel_rfl) (by kernel_rfl) (fun _ _ _ h => h) (by rfl) ?_ (by assumption) ?_; rotate_left; (intro w hSw; (try dsimp only at hSw); go_simp; (first | done | with_reducible rfl)); (try simp only [Act.put, List.setIfInBounds_toArray, List.set_cons_zero, List.set_cons_succ])))
          (first | (refine Ord.skipH 11 34 rfl rfl (by kernel_rfl) (by kernel_rfl) (by kernel_rfl) (fun _ _ _ h => h) ?_ (by assumption) ?_; rfl; (try simp only [Act.put, List.setIfInBounds_toArray, List.set_cons_zero, List.set_cons_succ])) | (refine Ord.takeH 11 34 (v := ?_) rfl rfl (by kernel_rfl) (by kernel_rfl) (by kernel_rfl) (fun _ _ _ h => h) (by rfl) ?_ (by assumption) ?_; rotate_left; (intro w hSw; (try dsimp only at hSw); go_simp; (first | done | with_reducible rfl)); (try simp only [Act.put, List.setIfInBounds_toArray, List.set_cons_zero, List.set_cons_succ])))
          (first | (refine Ord.skipH 12 35 rfl rfl (by kernel_rfl) (by kernel_rfl) (by kernel_rfl) (fun _ _ _ h => h) ?_ (by assumption) ?_; rfl; (try simp only [Act.put, List.setIfInBounds_toArray, List.set_cons_zero, List.set_cons_succ])) | (refine Ord.takeH 12 35 (v := ?_) rfl rfl (by kernel_rfl) (by kernel_rfl) (by kernel_rfl) (fun _ _ _ h => h) (by rfl) ?_ (by assumption) ?_; rotate_left; (intro w hSw; (try dsimp only at hSw); go_simp; (first | done | with_reducible rfl)); (try simp only [Act.put, List.setIfInBounds_toArray, List.set_cons_zero, List.set_cons_succ])))
          (first | (refine Ord.skipH 13 36 rfl rfl (by kernel_rfl) (by kernel_rfl) (by kernel_rfl) (fun _ _ _ h => h) ?_ (by assumption) ?_; rfl; (try simp only [Act.put, List.setIfInBounds_toArray, List.set_cons_zero, List.set_cons_succ])) | (refine Ord.takeH 13 36 (v := ?_) rfl rfl (by kernel_rfl) (by kernel_rfl) (by kernel_rfl) (fun _ _ _ h => h) (by rfl) ?_ (by assumption) ?_; rotate_left; (intro w hSw; (try dsimp only at hSw); go_simp; (first | done | with_reducible rfl)); (try simp only [Act.put, List.setIfInBounds_toArray, List.set_cons_zero, List.set_cons_succ])))
          (first | (refine Ord.skipH 14 37 rfl rfl (by kernel_rfl) (by kernel_rfl) (by kernel_rfl) (fun _ _ _ h => h) ?_ (by assumption) ?_; rfl; (try simp only [Act.put, List.setIfInBounds_toArray, List.set_cons_zero, List.set_cons_succ])) | (refine Ord.takeH 14 37 (v := ?_) rfl rfl (by kernel_rfl) (by kernel_rfl) (by kernel_rfl) (fun _ _ _ h => h) (by rfl) ?_ (by assumption) ?_; rotate_left; (intro w hSw; (try dsimp only at hSw); go_simp; (first | done | with_reducible rfl)); (try simp only [Act.put, List.setIfInBounds_toArray, List.set_cons_zero, List.set_cons_succ])))
          (first | (refine Ord.skipH 15 38 rfl rfl (by kernel_rfl) (by kernel_rfl) (by kernel_rfl) (fun _ _ _ h => h) ?_ (by assumption) ?_; rfl; (try simp only [Act.put, List.setIfInBounds_toArray, List.set_cons_zero, List.set_cons_succ])) | (refine Ord.takeH 15 38 (v := ?_) rfl rfl (by kernel_rfl) (by kernel_rfl) (by kernel_rfl) (fun _ _ _ h => h) (by rfl) ?_ (by assumption) ?_; rotate_left; (intro w hSw; (try dsimp only at hSw); go_simp; (first | done | with_reducible rfl)); (try simp only [Act.put, List.setIfInBounds_toArray, List.set_cons_zero, List.set_cons_succ])))
          (first | (refine Ord.skipH 16 39 rfl rfl (by kernel_rfl) (by kernel_rfl) (by kernel_rfl) (fun _ _ _ h => h) ?_ (by assumption) ?_; rfl; (try simp only [Act.put, List.setIfInBounds_toArray, List.set_cons_zero, List.set_cons_succ])) | (refine Ord.takeH 16 39 (v := ?_) rfl rfl (by kernel_rfl) (by kernel_rfl) (by kernel_rfl) (fun _ _ _ h => h) (by rfl) ?_ (by assumption) ?_; rotate_left; (intro w hSw; (try dsimp only at hSw); go_simp; (first | done | with_reducible rfl)); (try simp only [Act.put, List.setIfInBounds_toArray, List.set_cons_zero, List.set_cons_succ])))
          (first | (refine Ord.skipH 17 40 rfl rfl (by kernel_rfl) (by kernel_rfl) (by kernel_rfl) (fun _ _ _ h => h) ?_ (by assumption) ?_; rfl; (try simp only [Act.put, List.setIfInBounds_toArray, List.set_cons_zero, List.set_cons_succ])) | (refine Ord.takeH 17 40 (v := ?_) rfl rfl (by kernel_rfl) (by kernel_rfl) (by kernel_rfl) (fun _ _ _ h => h) (by rfl) ?_ (by assumption) ?_; rotate_left; (intro w hSw; (try dsimp only at hSw); go_simp; (first | done | with_reducible rfl)); (try simp only [Act.put, List.setIfInBounds_toArray, List.set_cons_zero, List.set_cons_succ])))
          (refine Ord.takeH 18 41 (v := ?_) rfl rfl (by kernel_rfl) (by kernel_rfl) (by kernel_rfl) (fun _ _ _ h => h) (by rfl) ?_ (by assumption) ?_; rotate_left; (intro w hSw; (try dsimp only at hSw); go_simp; (first | done | with_reducible rfl)); (try simp only [Act.put, List.setIfInBounds_toArray, List.set_cons_zero, List.set_cons_succ]))
          refine wpAnyH_done (by kernel_rfl) ?_ _
          go_wp2
          go_roundw
          case rel => exact RelV.step HD.out hk1 H.out HX.out (by repeat (first | exact Ext.refl _ | assumption | apply Ext.alloc | apply Ext.drew | (refine Ext.trans ?_ (by assumption)) | (refine Ext.setNew ?_ (by simp <;> omega) _)))
          case measure => simp [intOf]; omega
        · have HOK := Lib.hid (show okB fs k = decide ((fx fs (k - 1)).t < (fx fs k).t) by obtain ⟨j, rfl⟩ : ∃ j, k = j + 1 := ⟨k - 1, by omega⟩; exact okB_succ hv)
          obtain ⟨p0, _, _⟩ := ((HB.out (k - 1) (by omega)).ext ((Ext.refl _).alloc _)).ext HX.out
          have z0 : decide (0 < k) = true := decide_eq_true (by omega)
          have z1 : decide ((0 : Int) < (k : Int)) = true := decide_eq_true (by omega)
          have t2 : (0 : Int) ≤ (k : Int) - 1 := by omega
          have t3 : (1 : Int) ≤ (k : Int) := by omega
          have t4 : (k : Int) - 1 < (fs.length : Int) := by omega
          have T0 : IntKind.i64.wrap ((k : Int) - 1) = (k : Int) - 1 := IntWalk.i64_in _ (by omega)
          have T1 : ((k : Int) - 1).toNat = k - 1 := by omega
          by_cases hlt : (fx fs (k - 1)).t < (fx fs k).t
          · have H := Lib.hid (show okB fs k = true by rw [HOK.out]; exact decide_eq_true hlt)
            have z2 : decide ((fx fs k).t ≤ (fx fs (k - 1)).t) = false := decide_eq_false (by omega)
            go_wp2_with fail
            refine wp_region_held_drew (S := (fun w' => w'.cell? ⟨wr.heap.size, 0, none⟩ = some (.int .i64 (fx fs k).t) ∧ w'.cell? ⟨wr.heap.size, 1, none⟩ = some (.int .i64 (fx fs k).x) ∧ w'.cell? ⟨wr.heap.size, 2, none⟩ = some (.int .i64 (fx fs k).y) ∧ w'.cell? ⟨w.heap.size, 0, none⟩ = some (.slice (some ⟨b, off, none⟩) fs.length cap) ∧ w'.cell? ⟨b, off + (k - 1) * 3, none⟩ = some (.int .i64 (fx fs (k - 1)).t))) (by kernel_rfl) (by (try dsimp only); first | go_keep | exact (Ext.refl _).drew | exact Res.new2.drew | exact Res.new4.drew | exact ResB.drew (by assumption) | exact ResC.drew (by assumption) | assumption | exact Ext.drew (by assumption) | exact Res.drew (by assumption)) (fun hHeld => ?_)
            (refine Ord.takeH 0 23 (v := ?_) rfl rfl (by kernel_rfl) (by kernel_rfl) (by kernel_rfl) (fun _ _ _ h => h) (by rfl) ?_ (by assumption) ?_; rotate_left; (intro w hSw; (try dsimp only at hSw); go_simp; (first | done | with_reducible rfl)); (try simp only [Act.put, List.setIfInBounds_toArray, List.set_cons_zero, List.set_cons_succ]))
            (refine wpAnyH_ready (rs := [1]) (by kernel_rfl) (by simp) ?_; refine AllReadyH.cons rfl (fun K hK => ?_) AllReadyH.nil; go_simp; (go_at_call 43; refine (fixValid_of _ _).mono ?_; rintro e w1 ⟨rfl, hy⟩); go_wp2_with fail; (refine hK.out _ _ (by first | assumption | exact Ext.trans (by assumption) hy | exact Res.ext (by assumption) hy | exact ResB.ext (by assumption) hy | exact ResC.ext (by assumption) hy | (go_split_ands; (repeat' apply And.intro) <;> exact Ext.cellOf hy (by assumption))) (fun hHeld => ?_)); clear hK K; (try simp only [Act.put, List.setIfInBounds_toArray, List.set_cons_zero, List.set_cons_succ]))
            (refine Ord.takeH 2 25 (v := ?_) rfl rfl (by kernel_rfl) (by kernel_rfl) (by kernel_rfl) (fun _ _ _ h => h) (by rfl) ?_ (by assumption) ?_; rotate_left; (intro w hSw; (try dsimp only at hSw); go_simp; (first | done | with_reducible rfl)); (try simp only [Act.put, List.setIfInBounds_toArray, List.set_cons_zero, List.set_cons_succ]))
            (refine Ord.takeH 3 26 (v := ?_) rfl rfl (by kernel_rfl) (by kernel_rfl) (by kernel_rfl) (fun _ _ _ h => h) (by rfl) ?_ (by assumption) ?_; rotate_left; (intro w hSw; (try dsimp only at hSw); go_simp; (first | done | with_reducible rfl)); (try simp only [Act.put, List.setIfInBounds_toArray, List.set_cons_zero, List.set_cons_succ]))
            (first | (refine Ord.skipH 4 27 rfl rfl (by kernel_rfl) (by kernel_rfl) (by kernel_rfl) (fun _ _ _ h => h) ?_ (by assumption) ?_; rfl; (try simp only [Act.put, List.setIfInBounds_toArray, List.set_cons_zero, List.set_cons_succ])) | (refine Ord.takeH 4 27 (v := ?_) rfl rfl (by kernel_rfl) (by kernel_rfl) (by kernel_rfl) (fun _ _ _ h => h) (by rfl) ?_ (by assumption) ?_; rotate_left; (intro w hSw; (try dsimp only at hSw); go_simp; (first | done | with_reducible rfl)); (try simp only [Act.put, List.setIfInBounds_toArray, List.set_cons_zero, List.set_cons_succ])))
            (first | (refine Ord.skipH 5 28 rfl rfl (by kernel_rfl) (by kernel_rfl) (by kernel_rfl) (fun _ _ _ h => h) ?_ (by assumption) ?_; rfl; (try simp only [Act.put, List.setIfInBounds_toArray, List.set_cons_zero, List.set_cons_succ])) | (refine Ord.takeH 5 28 (v := ?_) rfl rfl (by kernel_rfl) (by kernel_rfl) (by kernel_rfl) (fun _ _ _ h => h) (by rfl) ?_ (by assumption) ?_; rotate_left; (intro w hSw; (try dsimp only at hSw); go_simp; (first | done | with_reducible rfl)); (try simp only [Act.put, List.setIfInBounds_toArray, List.set_cons_zero, List.set_cons_succ])))
            (first | (refine Ord.skipH 6 29 rfl rfl (by kernel_rfl) (by kernel_rfl) (by kernel_rfl) (fun _ _ _ h => h) ?_ (by assumption) ?_; rfl; (try simp only [Act.put, List.setIfInBounds_toArray, List.set_cons_zero, List.set_cons_succ])) | (refine Ord.takeH 6 29 (v := ?_) rfl rfl (by kernel_rfl) (by kernel_rfl) (by kernel_rfl) (fun _ _ _ h => h) (by rfl) ?_ (by assumption) ?_; rotate_left; (intro w hSw; (try dsimp only at hSw); go_simp; (first | done | with_reducible rfl)); (try simp only [Act.put, List.setIfInBounds_toArray, List.set_cons_zero, List.set_cons_succ])))
            (first | (refine Ord.skipH 7 30 rfl rfl (by kernel_rfl) (by kernel_rfl) (by kernel_rfl) (fun _ _ _ h => h) ?_ (by assumption) ?_; rfl; (try simp only [Act.put, List.setIfInBounds_toArray, List.set_cons_zero, List.set_cons_succ])) | (refine Ord.takeH 7 30 (v := ?_) rfl rfl (by kernel_rfl) (by kernel_rfl) (by kernel_rfl) (fun _ _ _ h => h) (by rfl) ?_ (by assumption) ?_; rotate_left; (intro w hSw; (try dsimp only at hSw); go_simp; (first | done | with_reducible rfl)); (try simp only [Act.put, List.setIfInBounds_toArray, List.set_cons_zero, List.set_cons_succ])))
            (first | (refine Ord.skipH 8 31 rfl rfl (by kernel_rfl) (by kernel_rfl) (by kernel_rfl) (fun _ _ _ h => h) ?_ (by assumption) ?_; rfl; (try simp only [Act.put, List.setIfInBounds_toArray, List.set_cons_zero, List.set_cons_succ])) | (refine Ord.takeH 8 31 (v := ?_) rfl rfl (by kernel_rfl) (by kernel_rfl) (by kernel_rfl) (fun _ _ _ h => h) (by rfl) ?_ (by assumption) ?_; rotate_left; (intro w hSw; (try dsimp only at hSw); go_simp; (first | done | with_reducible rfl)); (try simp only [Act.put, List.setIfInBounds_toArray, List.set_cons_zero, List.set_cons_succ])))
            (first | (refine Ord.skipH 9 32 rfl rfl (by kernel_rfl) (by kernel_rfl) (by kernel_rfl) (fun _ _ _ h => h) ?_ (by assumption) ?_; rfl; (try simp only [Act.put, List.setIfInBounds_toArray, List.set_cons_zero, List.set_cons_succ])) | (refine Ord.takeH 9 32 (v := ?_) rfl rfl (by kernel_rfl) (by kernel_rfl) (by kernel_rfl) (fun _ _ _ h => h) (by rfl) ?_ (by assumption) ?_; rotate_left; (intro w hSw; (try dsimp only at hSw); go_simp; (first | done | with_reducible rfl)); (try simp only [Act.put, List.setIfInBounds_toArray, List.set_cons_zero, List.set_cons_succ])))
            (first | (refine Ord.skipH 10 33 rfl rfl (by kernel_rfl) (by kernel_rfl) (by kernel_rfl) (fun _ _ _ h => h) ?_ (by assumption) ?_; rfl; (try simp only [Act.put, List.setIfInBounds_toArray, List.set_cons_zero, List.set_cons_succ])) | (refine Ord.takeH 10 33 (v := ?_) rfl rfl (by kernel_rfl) (by kernel_rfl) (by kernel_rfl) (fun _ _ _ h => h) (by rfl) ?_ (by assumption) ?_; rotate_left; (intro w hSw; (try dsimp only at hSw); go_simp; (first | done | with_reducible rfl)); (try simp only [Act.put, List.setIfInBounds_toArray, List.set_cons_zero, List.set_cons_succ])))
            (first | (refine Ord.skipH 11 34 rfl rfl (by kernel_rfl) (by kernel_rfl) (by kernel_rfl) (fun _ _ _ h => h) ?_ (by assumption) ?_; rfl; (try simp only [Act.put, List.setIfInBounds_toArray, List.set_cons_zero, List.set_cons_succ])) | (refine Ord.takeH 11 34 (v := ?_) rfl rfl (by kernel_rfl) (by kernel_rfl) (by kernel_rfl) (fun _ _ _ h => h) (by rfl) ?_ (by assumption) ?_; rotate_left; (intro w hSw; (try dsimp only at hSw); go_simp; (first | done | with_reducible rfl)); (try simp only [Act.put, List.setIfInBounds_toArray, List.set_cons_zero, List.set_cons_succ])))
            (first | (refine Ord.skipH 12 35 rfl rfl (by kernel_rfl) (by kernel_rfl) (by kernel_rfl) (fun _ _ _ h => h) ?_ (by assumption) ?_; rfl; (try simp only [Act.put, List.setIfInBounds_toArray, List.set_cons_zero, List.set_cons_succ])) | (refine Ord.takeH 12 35 (v := ?_) rfl rfl (by kernel_rfl) (by kernel_rfl) (by kernel_rfl) (fun _ _ _ h => h) (by rfl) ?_ (by assumption) ?_; rotate_left; (intro w hSw; (try dsimp only at hSw); go_simp; (first | done | with_reducible rfl)); (try simp only [Act.put, List.setIfInBounds_toArray, List.set_cons_zero, List.set_cons_succ])))
            (first | (refine Ord.skipH 13 36 rfl rfl (by kernel_rfl) (by kernel_rfl) (by kernel_rfl) (fun _ _ _ h => h) ?_ (by assumption) ?_; rfl; (try simp only [Act.put, List.setIfInBounds_toArray, List.set_cons_zero, List.set_cons_succ])) | (refine Ord.takeH 13 36 (v := ?_) rfl rfl (by kernel_rfl) (by kernel_rfl) (by kernel_rfl) (fun _ _ _ h => h) (by rfl) ?_ (by assumption) ?_; rotate_left; (intro w hSw; (try dsimp only at hSw); go_simp; (first | done | with_reducible rfl)); (try simp only [Act.put, List.setIfInBounds_toArray, List.set_cons_zero, List.set_cons_succ])))
            (first | (refine Ord.skipH 14 37 rfl rfl (by kernel_rfl) (by kernel_rfl) (by kernel_rfl) (fun _ _ _ h => h) ?_ (by assumption) ?_; rfl; (try simp only [Act.put, List.setIfInBounds_toArray, List.set_cons_zero, List.set_cons_succ])) | (refine Ord.takeH 14 37 (v := ?_) rfl rfl (by kernel_rfl) (by kernel_rfl) (by kernel_rfl) (fun _ _ _ h => h) (by rfl) ?_ (by assumption) ?_; rotate_left; (intro w hSw; (try dsimp only at hSw); go_simp; (first | done | with_reducible rfl)); (try simp only [Act.put, List.setIfInBounds_toArray, List.set_cons_zero, List.set_cons_succ])))
            (first | (refine Ord.skipH 15 38 rfl rfl (by kernel_rfl) (by kernel_rfl) (by kernel_rfl) (fun _ _ _ h => h) ?_ (by assumption) ?_; rfl; (try simp only [Act.put, List.setIfInBounds_toArray, List.set_cons_zero, List.set_cons_succ])) | (refine Ord.takeH 15 38 (v := ?_) rfl rfl (by kernel_rfl) (by kernel_rfl) (by kernel_rfl) (fun _ _ _ h => h) (by rfl) ?_ (by assumption) ?_; rotate_left; (intro w hSw; (try dsimp only at hSw); go_simp; (first | done | with_reducible rfl)); (try simp only [Act.put, List.setIfInBounds_toArray, List.set_cons_zero, List.set_cons_succ])))
            (first | (refine Ord.skipH 16 39 rfl rfl (by kernel_rfl) (by kernel_rfl) (by kernel_rfl) (fun _ _ _ h => h) ?_ (by assumption) ?_; rfl; (try simp only [Act.put, List.setIfInBounds_toArray, List.set_cons_zero, List.set_cons_succ])) | (refine Ord.takeH 16 39 (v := ?_) rfl rfl (by kernel_rfl) (by kernel_rfl) (by kernel_rfl) (fun _ _ _ h => h) (by rfl) ?_ (by assumption) ?_; rotate_left; (intro w hSw; (try dsimp only at hSw); go_simp; (first | done | with_reducible rfl)); (try simp only [Act.put, List.setIfInBounds_toArray, List.set_cons_zero, List.set_cons_succ])))
            (first | (refine Ord.skipH 17 40 rfl rfl (by kernel_rfl) (by kernel_rfl) (by kernel_rfl) (fun _ _ _ h => h) ?_ (by assumption) ?_; rfl; (try simp only [Act.put, List.setIfInBounds_toArray, List.set_cons_zero, List.set_cons_succ])) | (refine Ord.takeH 17 40 (v := ?_) rfl rfl (by kernel_rfl) (by kernel_rfl) (by kernel_rfl) (fun _ _ _ h => h) (by rfl) ?_ (by assumption) ?_; rotate_left; (intro w hSw; (try dsimp only at hSw); go_simp; (first | done | with_reducible rfl)); (try simp only [Act.put, List.setIfInBounds_toArray, List.set_cons_zero, List.set_cons_succ])))
            (refine Ord.takeH 18 41 (v := ?_) rfl rfl (by kernel_rfl) (by kernel_rfl) (by kernel_rfl) (fun _ _ _ h => h) (by rfl) ?_ (by assumption) ?_; rotate_left; (intro w hSw; (try dsimp only at hSw); go_simp; (first | done | with_reducible rfl)); (try simp only [Act.put, List.setIfInBounds_toArray, List.set_cons_zero, List.set_cons_succ]))
            refine wpAnyH_done (by kernel_rfl) ?_ _
            clear T0 T1
            go_wp2
            go_roundw
            case rel => exact RelV.step HD.out hk1 H.out HX.out (by repeat (first | exact Ext.refl _ | assumption | apply Ext.alloc | apply Ext.drew | (refine Ext.trans ?_ (by assumption)) | (refine Ext.setNew ?_ (by simp <;> omega) _)))
            case measure => simp [intOf]; omega
          · have H := Lib.hid (trB_no hk1 (show okB fs k = false by rw [HOK.out]; exact decide_eq_false hlt))
            have z2 : decide ((fx fs k).t ≤ (fx fs (k - 1)).t) = true := decide_eq_true (by omega)
            go_wp2_with fail
            refine wp_region_held_drew (S := (fun w' => w'.cell? ⟨wr.heap.size, 0, none⟩ = some (.int .i64 (fx fs k).t) ∧ w'.cell? ⟨wr.heap.size, 1, none⟩ = some (.int .i64 (fx fs k).x) ∧ w'.cell? ⟨wr.heap.size, 2, none⟩ = some (.int .i64 (fx fs k).y) ∧ w'.cell? ⟨w.heap.size, 0, none⟩ = some (.slice (some ⟨b, off, none⟩) fs.length cap) ∧ w'.cell? ⟨b, off + (k - 1) * 3, none⟩ = some (.int .i64 (fx fs (k - 1)).t))) (by kernel_rfl) (by (try dsimp only); first | go_keep | exact (Ext.refl _).drew | exact Res.new2.drew | exact Res.new4.drew | exact ResB.drew (by assumption) | exact ResC.drew (by assumption) | assumption | exact Ext.drew (by assumption) | exact Res.drew (by assumption)) (fun hHeld => ?_)
            (refine Ord.takeH 0 23 (v := ?_) rfl rfl (by kernel_rfl) (by kernel_rfl) (by kernel_rfl) (fun _ _ _ h => h) (by rfl) ?_ (by assumption) ?_; rotate_left; (intro w hSw; (try dsimp only at hSw); go_simp; (first | done | with_reducible rfl)); (try simp only [Act.put, List.setIfInBounds_toArray, List.set_cons_zero, List.set_cons_succ]))
            (refine wpAnyH_ready (rs := [1]) (by kernel_rfl) (by simp) ?_; refine AllReadyH.cons rfl (fun K hK => ?_) AllReadyH.nil; go_simp; (go_at_call 43; refine (fixValid_of _ _).mono ?_; rintro e w1 ⟨rfl, hy⟩); go_wp2_with fail; (refine hK.out _ _ (by first | assumption | exact Ext.trans (by assumption) hy | exact Res.ext (by assumption) hy | exact ResB.ext (by assumption) hy | exact ResC.ext (by assumption) hy | (go_split_ands; (repeat' apply And.intro) <;> exact Ext.cellOf hy (by assumption))) (fun hHeld => ?_)); clear hK K; (try simp only [Act.put, List.setIfInBounds_toArray, List.set_cons_zero, List.set_cons_succ]))
            (refine Ord.takeH 2 25 (v := ?_) rfl rfl (by kernel_rfl) (by kernel_rfl) (by kernel_rfl) (fun _ _ _ h => h) (by rfl) ?_ (by assumption) ?_; rotate_left; (intro w hSw; (try dsimp only at hSw); go_simp; (first | done | with_reducible rfl)); (try simp only [Act.put, List.setIfInBounds_toArray, List.set_cons_zero, List.set_cons_succ]))
            (refine Ord.takeH 3 26 (v := ?_) rfl rfl (by kernel_rfl) (by kernel_rfl) (by kernel_rfl) (fun _ _ _ h => h) (by rfl) ?_ (by assumption) ?_; rotate_left; (intro w hSw; (try dsimp only at hSw); go_simp; (first | done | with_reducible rfl)); (try simp only [Act.put, List.setIfInBounds_toArray, List.set_cons_zero, List.set_cons_succ]))
            (first | (refine Ord.skipH 4 27 rfl rfl (by kernel_rfl) (by kernel_rfl) (by kernel_rfl) (fun _ _ _ h => h) ?_ (by assumption) ?_; rfl; (try simp only [Act.put, List.setIfInBounds_toArray, List.set_cons_zero, List.set_cons_succ])) | (refine Ord.takeH 4 27 (v := ?_) rfl rfl (by kernel_rfl) (by kernel_rfl) (by kernel_rfl) (fun _ _ _ h => h) (by rfl) ?_ (by assumption) ?_; rotate_left; (intro w hSw; (try dsimp only at hSw); go_simp; (first | done | with_reducible rfl)); (try simp only [Act.put, List.setIfInBounds_toArray, List.set_cons_zero, List.set_cons_succ])))
            (first | (refine Ord.skipH 5 28 rfl rfl (by kernel_rfl) (by kernel_rfl) (by kernel_rfl) (fun _ _ _ h => h) ?_ (by assumption) ?_; rfl; (try simp only [Act.put, List.setIfInBounds_toArray, List.set_cons_zero, List.set_cons_succ])) | (refine Ord.takeH 5 28 (v := ?_) rfl rfl (by kernel_rfl) (by kernel_rfl) (by kernel_rfl) (fun _ _ _ h => h) (by rfl) ?_ (by assumption) ?_; rotate_left; (intro w hSw; (try dsimp only at hSw); go_simp; (first | done | with_reducible rfl)); (try simp only [Act.put, List.setIfInBounds_toArray, List.set_cons_zero, List.set_cons_succ])))
            (first | (refine Ord.skipH 6 29 rfl rfl (by kernel_rfl) (by kernel_rfl) (by kernel_rfl) (fun _ _ _ h => h) ?_ (by assumption) ?_; rfl; (try simp only [Act.put, List.setIfInBounds_toArray, List.set_cons_zero, List.set_cons_succ])) | (refine Ord.takeH 6 29 (v := ?_) rfl rfl (by kernel_rfl) (by kernel_rfl) (by kernel_rfl) (fun _ _ _ h => h) (by rfl) ?_ (by assumption) ?_; rotate_left; (intro w hSw; (try dsimp only at hSw); go_simp; (first | done | with_reducible rfl)); (try simp only [Act.put, List.setIfInBounds_toArray, List.set_cons_zero, List.set_cons_succ])))
            (first | (refine Ord.skipH 7 30 rfl rfl (by kernel_rfl) (by kernel_rfl) (by kernel_rfl) (fun _ _ _ h => h) ?_ (by assumption) ?_; rfl; (try simp only [Act.put, List.setIfInBounds_toArray, List.set_cons_zero, List.set_cons_succ])) | (refine Ord.takeH 7 30 (v := ?_) rfl rfl (by kernel_rfl) (by kernel_rfl) (by kernel_rfl) (fun _ _ _ h => h) (by rfl) ?_ (by assumption) ?_; rotate_left; (intro w hSw; (try dsimp only at hSw); go_simp; (first | done | with_reducible rfl)); (try simp only [Act.put, List.setIfInBounds_toArray, List.set_cons_zero, List.set_cons_succ])))
            (first | (refine Ord.skipH 8 31 rfl rfl (by kernel_rfl) (by kernel_rfl) (by kernel_rfl) (fun _ _ _ h => h) ?_ (by assumption) ?_; rfl; (try simp only [Act.put, List.setIfInBounds_toArray, List.set_cons_zero, List.set_cons_succ])) | (refine Ord.takeH 8 31 (v := ?_) rfl rfl (by kernel_rfl) (by kernel_rfl) (by kernel_rfl) (fun _ _ _ h => h) (by rfl) ?_ (by assumption) ?_; rotate_left; (intro w hSw; (try dsimp only at hSw); go_simp; (first | done | with_reducible rfl)); (try simp only [Act.put, List.setIfInBounds_toArray, List.set_cons_zero, List.set_cons_succ])))
            (first | (refine Ord.skipH 9 32 rfl rfl (by kernel_rfl) (by kernel_rfl) (by kernel_rfl) (fun _ _ _ h => h) ?_ (by assumption) ?_; rfl; (try simp only [Act.put, List.setIfInBounds_toArray, List.set_cons_zero, List.set_cons_succ])) | (refine Ord.takeH 9 32 (v := ?_) rfl rfl (by kernel_rfl) (by kernel_rfl) (by kernel_rfl) (fun _ _ _ h => h) (by rfl) ?_ (by assumption) ?_; rotate_left; (intro w hSw; (try dsimp only at hSw); go_simp; (first | done | with_reducible rfl)); (try simp only [Act.put, List.setIfInBounds_toArray, List.set_cons_zero, List.set_cons_succ])))
            (first | (refine Ord.skipH 10 33 rfl rfl (by kernel_rfl) (by kernel_rfl) (by kernel_rfl) (fun _ _ _ h => h) ?_ (by assumption) ?_; rfl; (try simp only [Act.put, List.setIfInBounds_toArray, List.set_cons_zero, List.set_cons_succ])) | (refine Ord.takeH 10 33 (v := ?_) rfl rfl (by kernel_rfl) (by kernel_rfl) (by kernel_rfl) (fun _ _ _ h => h) (by rfl) ?_ (by assumption) ?_; rotate_left; (intro w hSw; (try dsimp only at hSw); go_simp; (first | done | with_reducible rfl)); (try simp only [Act.put, List.setIfInBounds_toArray, List.set_cons_zero, List.set_cons_succ])))
            (first | (refine Ord.skipH 11 34 rfl rfl (by kernel_rfl) (by kernel_rfl) (by kernel_rfl) (fun _ _ _ h => h) ?_ (by assumption) ?_; rfl; (try simp only [Act.put, List.setIfInBounds_toArray, List.set_cons_zero, List.set_cons_succ])) | (refine Ord.takeH 11 34 (v := ?_) rfl rfl (by kernel_rfl) (by kernel_rfl) (by kernel_rfl) (fun _ _ _ h => h) (by rfl) ?_ (by assumption) ?_; rotate_left; (intro w hSw; (try dsimp only at hSw); go_simp; (first | done | with_reducible rfl)); (try simp only [Act.put, List.setIfInBounds_toArray, List.set_cons_zero, List.set_cons_succ])))
            (first | (refine Ord.skipH 12 35 rfl rfl (by kernel_rfl) (by kernel_rfl) (by kernel_rfl) (fun _ _ _ h => h) ?_ (by assumption) ?_; rfl; (try simp only [Act.put, List.setIfInBounds_toArray, List.set_cons_zero, List.set_cons_succ])) | (refine Ord.takeH 12 35 (v := ?_) rfl rfl (by kernel_rfl) (by kernel_rfl) (by kernel_rfl) (fun _ _ _ h => h) (by rfl) ?_ (by assumption) ?_; rotate_left; (intro w hSw; (try dsimp only at hSw); go_simp; (first | done | with_reducible rfl)); (try simp only [Act.put, List.setIfInBounds_toArray, List.set_cons_zero, List.set_cons_succ])))
            (first | (refine Ord.skipH 13 36 rfl rfl (by kernel_rfl) (by kernel_rfl) (by kernel_rfl) (fun _ _ _ h => h) ?_ (by assumption) ?_; rfl; (try simp only [Act.put, List.setIfInBounds_toArray, List.set_cons_zero, List.set_cons_succ])) | (refine Ord.takeH 13 36 (v := ?_) rfl rfl (by kernel_rfl) (by kernel_rfl) (by kernel_rfl) (fun _ _ _ h => h) (by rfl) ?_ (by assumption) ?_; rotate_left; (intro w hSw; (try dsimp only at hSw); go_simp; (first | done | with_reducible rfl)); (try simp only [Act.put, List.setIfInBounds_toArray, List.set_cons_zero, List.set_cons_succ])))
            (first | (refine Ord.skipH 14 37 rfl rfl (by kernel_rfl) (by kernel_rfl) (by kernel_rfl) (fun _ _ _ h => h) ?_ (by assumption) ?_; rfl; (try simp only [Act.put, List.setIfInBounds_toArray, List.set_cons_zero, List.set_cons_succ])) | (refine Ord.takeH 14 37 (v := ?_) rfl rfl (by kernel_rfl) (by kernel_rfl) (by kernel_rfl) (fun _ _ _ h => h) (by rfl) ?_ (by assumption) ?_; rotate_left; (intro w hSw; (try dsimp only at hSw); go_simp; (first | done | with_reducible rfl)); (try simp only [Act.put, List.setIfInBounds_toArray, List.set_cons_zero, List.set_cons_succ])))
            (first | (refine Ord.skipH 15 38 rfl rfl (by kernel_rfl) (by kernel_rfl) (by kernel_rfl) (fun _ _ _ h => h) ?_ (by assumption) ?_; rfl; (try simp only [Act.put, List.setIfInBounds_toArray, List.set_cons_zero, List.set_cons_succ])) | (refine Ord.takeH 15 38 (v := ?_) rfl rfl (by kernel_rfl) (by kernel_rfl) (by kernel_rfl) (fun _ _ _ h => h) (by rfl) ?_ (by assumption) ?_; rotate_left; (intro w hSw; (try dsimp only at hSw); go_simp; (first | done | with_reducible rfl)); (try simp only [Act.put, List.setIfInBounds_toArray, List.set_cons_zero, List.set_cons_succ])))
            (first | (refine Ord.skipH 16 39 rfl rfl (by kernel_rfl) (by kernel_rfl) (by kernel_rfl) (fun _ _ _ h => h) ?_ (by assumption) ?_; rfl; (try simp only [Act.put, List.setIfInBounds_toArray, List.set_cons_zero, List.set_cons_succ])) | (refine Ord.takeH 16 39 (v := ?_) rfl rfl (by kernel_rfl) (by kernel_rfl) (by kernel_rfl) (fun _ _ _ h => h) (by rfl) ?_ (by assumption) ?_; rotate_left; (intro w hSw; (try dsimp only at hSw); go_simp; (first | done | with_reducible rfl)); (try simp only [Act.put, List.setIfInBounds_toArray, List.set_cons_zero, List.set_cons_succ])))
            (first | (refine Ord.skipH 17 40 rfl rfl (by kernel_rfl) (by kernel_rfl) (by kernel_rfl) (fun _ _ _ h => h) ?_ (by assumption) ?_; rfl; (try simp only [Act.put, List.setIfInBounds_toArray, List.set_cons_zero, List.set_cons_succ])) | (refine Ord.takeH 17 40 (v := ?_) rfl rfl (by kernel_rfl) (by kernel_rfl) (by kernel_rfl) (fun _ _ _ h => h) (by rfl) ?_ (by assumption) ?_; rotate_left; (intro w hSw; (try dsimp only at hSw); go_simp; (first | done | with_reducible rfl)); (try simp only [Act.put, List.setIfInBounds_toArray, List.set_cons_zero, List.set_cons_succ])))
            (refine Ord.takeH 18 41 (v := ?_) rfl rfl (by kernel_rfl) (by kernel_rfl) (by kernel_rfl) (fun _ _ _ h => h) (by rfl) ?_ (by assumption) ?_; rotate_left; (intro w hSw; (try dsimp only at hSw); go_simp; (first | done | with_reducible rfl)); (try simp only [Act.put, List.setIfInBounds_toArray, List.set_cons_zero, List.set_cons_succ]))
            refine wpAnyH_done (by kernel_rfl) ?_ _
            clear T0 T1
            go_wp2
            go_ret
            exact ⟨ret_bool H.out, ((Ext.refl _).alloc _).trans (HX.out.trans (by repeat (first | exact Ext.refl _ | assumption | apply Ext.alloc | apply Ext.drew | (refine Ext.trans ?_ (by assumption)) | (refine Ext.setNew ?_ (by simp <;> omega) _))))⟩
    · obtain rfl : k = fs.length := by omega
      have H := Lib.hid (trB_all (by omega) (by omega) HD.out)
      go_wp2
      go_ret
      exact ⟨ret_bool H.out, ((Ext.refl _).alloc _).trans HX.out⟩

theorem fxB_time {f : F3} (h : inB f.t 0 1000000000 = false) : fxB f = false := by unfold fxB tmB; rw [h]; rfl
theorem fxB_pt {f : F3} (h : ptB f.x f.y = false) : fxB f = false := by unfold fxB; rw [h]; simp
theorem fxB_both {f : F3} (h : inB f.t 0 1000000000 = true) (g : ptB f.x f.y = true) : fxB f = true := by unfold fxB tmB; rw [h, g]; rfl

set_option maxHeartbeats 1000000 in
theorem isTrack_spec (a : Option Addr) (cap : Nat) (fs : List F3) (w : World) (hf : Fxs w a fs) : Calls Try.prog 25 #[Tr (.slice a fs.length cap)] w fun e w' => e = .returned (.bool (trB fs)) ∧ Ext w w' := by
  have hm := hf.1
  unfold maxLen at hm
  have HF := Lib.hid hf
  clear hf
  by_cases h2 : fs.length < 2
  · have H := Lib.hid (trB_short h2)
    go_enter Try.func25, Try.ntmps25
    go_wp2
    go_ret
    exact ⟨ret_bool H.out, (by repeat (first | exact Ext.refl _ | assumption | apply Ext.alloc | apply Ext.drew | (refine Ext.trans ?_ (by assumption)) | (refine Ext.setNew ?_ (by simp <;> omega) _)))⟩
  by_cases h40 : 40 < fs.length
  · have H := Lib.hid (trB_long h40)
    go_enter Try.func25, Try.ntmps25
    go_wp2
    go_ret
    exact ⟨ret_bool H.out, (by repeat (first | exact Ext.refl _ | assumption | apply Ext.alloc | apply Ext.drew | (refine Ext.trans ?_ (by assumption)) | (refine Ext.setNew ?_ (by simp <;> omega) _)))⟩
  have q2 : decide ((fs.length : Int) < 2) = false := decide_eq_false (by omega)
  have q40 : decide (40 < (fs.length : Int)) = false := decide_eq_false (by omega)
  go_enter Try.func25, Try.ntmps25
  go_wp2
  go_loopw [4] (fun i wr => RelV (w.alloc (.cells #[.slice a fs.length cap] 26)) fs i wr) (fun i _ => fs.length - (intOf i).toNat)
  case atStart => exact ⟨0, rfl, Nat.zero_le _, fun j hj => absurd hj (by omega), Ext.refl _⟩
  case round =>
    obtain ⟨k, rfl, hk, hd, hx⟩ := hrel
    have HD := Lib.hid hd
    have HX := Lib.hid hx
    have bx : wr.cell? ⟨w.heap.size, 0, none⟩ = some (.slice a fs.length cap) := hx.cellOf (boxed 0 rfl rfl)
    clear hd hx
    by_cases hk1 : k < fs.length
    · rcases HF.out.2 with h0 | ⟨b, off, rfl, hb⟩
      · rw [h0] at hk1; simp at hk1
      have HB := Lib.hid hb
      clear hb
      obtain ⟨c0, c1, c2⟩ := ((HB.out k hk1).ext ((Ext.refl _).alloc _)).ext HX.out
      have i0 : (0 : Int) ≤ (k : Int) := by omega
      have i1 : (k : Int) < (fs.length : Int) := by omega
      cases hv : inB (fx fs k).t 0 1000000000
      · have H := Lib.hid (trB_no hk1 (okB_time (fxB_time hv)))
        go_wp2_with fail
        refine wp_region_held_drew (S := (fun w' => w'.cell? ⟨wr.heap.size, 0, none⟩ = some (.int .i64 (fx fs k).t) ∧ w'.cell? ⟨wr.heap.size, 1, none⟩ = some (.int .i64 (fx fs k).x) ∧ w'.cell? ⟨wr.heap.size, 2, none⟩ = some (.int .i64 (fx fs k).y) ∧ w'.cell? ⟨w.heap.size, 0, none⟩ = some (.slice (some ⟨b, off, none⟩) fs.length cap))) (by kernel_rfl) (by (try dsimp only); first | go_keep | exact (Ext.refl _).drew | exact Res.new2.drew | exact Res.new4.drew | exact ResB.drew (by assumption) | exact ResC.drew (by assumption) | assumption | exact Ext.drew (by assumption) | exact Res.drew (by assumption)) (fun hHeld => ?_)
        (refine Ord.takeH 0 25 (v := ?_) rfl rfl (by kernel_rfl) (by kernel_rfl) (by kernel_rfl) (fun _ _ _ h => h) (by rfl) ?_ (by assumption) ?_; rotate_left; (intro w hSw; (try dsimp only at hSw); go_simp; (first | done | with_reducible rfl)); (try simp only [Act.put, List.setIfInBounds_toArray, List.set_cons_zero, List.set_cons_succ]))
        (refine Ord.takeH 1 26 (v := ?_) rfl rfl (by kernel_rfl) (by kernel_rfl) (by kernel_rfl) (fun _ _ _ h => h) (by rfl) ?_ (by assumption) ?_; rotate_left; (intro w hSw; (try dsimp only at hSw); go_simp; (first | done | with_reducible rfl)); (try simp only [Act.put, List.setIfInBounds_toArray, List.set_cons_zero, List.set_cons_succ]))
        (refine wpAnyH_ready (rs := [2]) (by kernel_rfl) (by simp) ?_; refine AllReadyH.cons rfl (fun K hK => ?_) AllReadyH.nil; go_simp; (first | (go_at_call 45; refine (in_any _ _ _ _).mono ?_; rintro e w1 ⟨rfl, rfl⟩) | (go_at_call 47; refine (point_spec _ _ _ _).mono ?_; rintro e w1 ⟨rfl, hy⟩) | (go_at_call 46; refine (isPoint_spec _ _ _).mono ?_; rintro e w1 ⟨rfl, hy⟩)); go_wp2_with fail; (refine hK.out _ _ (by first | assumption | exact Ext.trans (by assumption) hy | exact Res.ext (by assumption) hy | exact ResB.ext (by assumption) hy | exact ResC.ext (by assumption) hy | (go_split_ands; (repeat' apply And.intro) <;> exact Ext.cellOf hy (by assumption))) (fun hHeld => ?_)); clear hK K; (try simp only [Act.put, List.setIfInBounds_toArray, List.set_cons_zero, List.set_cons_succ]))
        (refine Ord.takeH 3 28 (v := ?_) rfl rfl (by kernel_rfl) (by kernel_rfl) (by kernel_rfl) (fun _ _ _ h => h) (by rfl) ?_ (by assumption) ?_; rotate_left; (intro w hSw; (try dsimp only at hSw); go_simp; (first | done | with_reducible rfl)); (try simp only [Act.put, List.setIfInBounds_toArray, List.set_cons_zero, List.set_cons_succ]))
        (refine Ord.takeH 4 29 (v := ?_) rfl rfl (by kernel_rfl) (by kernel_rfl) (by kernel_rfl) (fun _ _ _ h => h) (by rfl) ?_ (by assumption) ?_; rotate_left; (intro w hSw; (try dsimp only at hSw); go_simp; (first | done | with_reducible rfl)); (try simp only [Act.put, List.setIfInBounds_toArray, List.set_cons_zero, List.set_cons_succ]))
        (first | (refine Ord.skipH 5 30 rfl rfl (by kernel_rfl) (by kernel_rfl) (by kernel_rfl) (fun _ _ _ h => h) ?_ (by assumption) ?_; rfl; (try simp only [Act.put, List.setIfInBounds_toArray, List.set_cons_zero, List.set_cons_succ])) | (refine Ord.takeH 5 30 (v := ?_) rfl rfl (by kernel_rfl) (by kernel_rfl) (by kernel_rfl) (fun _ _ _ h => h) (by rfl) ?_ (by assumption) ?_; rotate_left; (intro w hSw; (try dsimp only at hSw); go_simp; (first | done | with_reducible rfl)); (try simp only [Act.put, List.setIfInBounds_toArray, List.set_cons_zero, List.set_cons_succ])))
        (first | (refine Ord.skipH 6 31 rfl rfl (by kernel_rfl) (by kernel_rfl) (by kernel_rfl) (fun _ _ _ h => h) ?_ (by assumption) ?_; rfl; (try simp only [Act.put, List.setIfInBounds_toArray, List.set_cons_zero, List.set_cons_succ])) | (refine wpAnyH_ready (rs := [6]) (by kernel_rfl) (by simp) ?_; refine AllReadyH.cons rfl (fun K hK => ?_) AllReadyH.nil; go_simp; (first | (go_at_call 45; refine (in_any _ _ _ _).mono ?_; rintro e w1 ⟨rfl, rfl⟩) | (go_at_call 47; refine (point_spec _ _ _ _).mono ?_; rintro e w1 ⟨rfl, hy⟩) | (go_at_call 46; refine (isPoint_spec _ _ _).mono ?_; rintro e w1 ⟨rfl, hy⟩)); go_wp2_with fail; (refine hK.out _ _ (by first | assumption | exact Ext.trans (by assumption) hy | exact Res.ext (by assumption) hy | exact ResB.ext (by assumption) hy | exact ResC.ext (by assumption) hy | (go_split_ands; (repeat' apply And.intro) <;> exact Ext.cellOf hy (by assumption))) (fun hHeld => ?_)); clear hK K; (try simp only [Act.put, List.setIfInBounds_toArray, List.set_cons_zero, List.set_cons_succ])))
        (first | (refine Ord.skipH 7 32 rfl rfl (by kernel_rfl) (by kernel_rfl) (by kernel_rfl) (fun _ _ _ h => h) ?_ (by assumption) ?_; rfl; (try simp only [Act.put, List.setIfInBounds_toArray, List.set_cons_zero, List.set_cons_succ])) | (refine wpAnyH_ready (rs := [7]) (by kernel_rfl) (by simp) ?_; refine AllReadyH.cons rfl (fun K hK => ?_) AllReadyH.nil; go_simp; (first | (go_at_call 45; refine (in_any _ _ _ _).mono ?_; rintro e w1 ⟨rfl, rfl⟩) | (go_at_call 47; refine (point_spec _ _ _ _).mono ?_; rintro e w1 ⟨rfl, hy⟩) | (go_at_call 46; refine (isPoint_spec _ _ _).mono ?_; rintro e w1 ⟨rfl, hy⟩)); go_wp2_with fail; (refine hK.out _ _ (by first | assumption | exact Ext.trans (by assumption) hy | exact Res.ext (by assumption) hy | exact ResB.ext (by assumption) hy | exact ResC.ext (by assumption) hy | (go_split_ands; (repeat' apply And.intro) <;> exact Ext.cellOf hy (by assumption))) (fun hHeld => ?_)); clear hK K; (try simp only [Act.put, List.setIfInBounds_toArray, List.set_cons_zero, List.set_cons_succ])))
        (first | (refine Ord.skipH 8 33 rfl rfl (by kernel_rfl) (by kernel_rfl) (by kernel_rfl) (fun _ _ _ h => h) ?_ (by assumption) ?_; rfl; (try simp only [Act.put, List.setIfInBounds_toArray, List.set_cons_zero, List.set_cons_succ])) | (refine Ord.takeH 8 33 (v := ?_) rfl rfl (by kernel_rfl) (by kernel_rfl) (by kernel_rfl) (fun _ _ _ h => h) (by rfl) ?_ (by assumption) ?_; rotate_left; (intro w hSw; (try dsimp only at hSw); go_simp; (first | done | with_reducible rfl)); (try simp only [Act.put, List.setIfInBounds_toArray, List.set_cons_zero, List.set_cons_succ])))
        (refine Ord.takeH 9 34 (v := ?_) rfl rfl (by kernel_rfl) (by kernel_rfl) (by kernel_rfl) (fun _ _ _ h => h) (by rfl) ?_ (by assumption) ?_; rotate_left; (intro w hSw; (try dsimp only at hSw); go_simp; (first | done | with_reducible rfl)); (try simp only [Act.put, List.setIfInBounds_toArray, List.set_cons_zero, List.set_cons_succ]))
        (refine Ord.takeH 10 35 (v := ?_) rfl rfl (by kernel_rfl) (by kernel_rfl) (by kernel_rfl) (fun _ _ _ h => h) (by rfl) ?_ (by assumption) ?_; rotate_left; (intro w hSw; (try dsimp only at hSw); go_simp; (first | done | with_reducible rfl)); (try simp only [Act.put, List.setIfInBounds_toArray, List.set_cons_zero, List.set_cons_succ]))
        (first | (refine Ord.skipH 11 36 rfl rfl (by kernel_rfl) (by kernel_rfl) (by kernel_rfl) (fun _ _ _ h => h) ?_ (by assumption) ?_; rfl; (try simp only [Act.put, List.setIfInBounds_toArray, List.set_cons_zero, List.set_cons_succ])) | (refine Ord.takeH 11 36 (v := ?_) rfl rfl (by kernel_rfl) (by kernel_rfl) (by kernel_rfl) (fun _ _ _ h => h) (by rfl) ?_ (by assumption) ?_; rotate_left; (intro w hSw; (try dsimp only at hSw); go_simp; (first | done | with_reducible rfl)); (try simp only [Act.put, List.setIfInBounds_toArray, List.set_cons_zero, List.set_cons_succ])))
        (first | (refine Ord.skipH 12 37 rfl rfl (by kernel_rfl) (by kernel_rfl) (by kernel_rfl) (fun _ _ _ h => h) ?_ (by assumption) ?_; rfl; (try simp only [Act.put, List.setIfInBounds_toArray, List.set_cons_zero, List.set_cons_succ])) | (refine Ord.takeH 12 37 (v := ?_) rfl rfl (by kernel_rfl) (by kernel_rfl) (by kernel_rfl) (fun _ _ _ h => h) (by rfl) ?_ (by assumption) ?_; rotate_left; (intro w hSw; (try dsimp only at hSw); go_simp; (first | done | with_reducible rfl)); (try simp only [Act.put, List.setIfInBounds_toArray, List.set_cons_zero, List.set_cons_succ])))
        (first | (refine Ord.skipH 13 38 rfl rfl (by kernel_rfl) (by kernel_rfl) (by kernel_rfl) (fun _ _ _ h => h) ?_ (by assumption) ?_; rfl; (try simp only [Act.put, List.setIfInBounds_toArray, List.set_cons_zero, List.set_cons_succ])) | (refine Ord.takeH 13 38 (v := ?_) rfl rfl (by kernel_rfl) (by kernel_rfl) (by kernel_rfl) (fun _ _ _ h => h) (by rfl) ?_ (by assumption) ?_; rotate_left; (intro w hSw; (try dsimp only at hSw); go_simp; (first | done | with_reducible rfl)); (try simp only [Act.put, List.setIfInBounds_toArray, List.set_cons_zero, List.set_cons_succ])))
        (first | (refine Ord.skipH 14 39 rfl rfl (by kernel_rfl) (by kernel_rfl) (by kernel_rfl) (fun _ _ _ h => h) ?_ (by assumption) ?_; rfl; (try simp only [Act.put, List.setIfInBounds_toArray, List.set_cons_zero, List.set_cons_succ])) | (refine Ord.takeH 14 39 (v := ?_) rfl rfl (by kernel_rfl) (by kernel_rfl) (by kernel_rfl) (fun _ _ _ h => h) (by rfl) ?_ (by assumption) ?_; rotate_left; (intro w hSw; (try dsimp only at hSw); go_simp; (first | done | with_reducible rfl)); (try simp only [Act.put, List.setIfInBounds_toArray, List.set_cons_zero, List.set_cons_succ])))
        (first | (refine Ord.skipH 15 40 rfl rfl (by kernel_rfl) (by kernel_rfl) (by kernel_rfl) (fun _ _ _ h => h) ?_ (by assumption) ?_; rfl; (try simp only [Act.put, List.setIfInBounds_toArray, List.set_cons_zero, List.set_cons_succ])) | (refine Ord.takeH 15 40 (v := ?_) rfl rfl (by kernel_rfl) (by kernel_rfl) (by kernel_rfl) (fun _ _ _ h => h) (by rfl) ?_ (by assumption) ?_; rotate_left; (intro w hSw; (try dsimp only at hSw); go_simp; (first | done | with_reducible rfl)); (try simp only [Act.put, List.setIfInBounds_toArray, List.set_cons_zero, List.set_cons_succ])))
        (first | (refine Ord.skipH 16 41 rfl rfl (by kernel_rfl) (by kernel_rfl) (by kernel_rfl) (fun _ _ _ h => h) ?_ (by assumption) ?_; rfl; (try simp only [Act.put, List.setIfInBounds_toArray, List.set_cons_zero, List.set_cons_succ])) | (refine Ord.takeH 16 41 (v := ?_) rfl rfl (by kernel_rfl) (by kernel_rfl) (by kernel_rfl) (fun _ _ _ h => h) (by rfl) ?_ (by assumption) ?_; rotate_left; (intro w hSw; (try dsimp only at hSw); go_simp; (first | done | with_reducible rfl)); (try simp only [Act.put, List.setIfInBounds_toArray, List.set_cons_zero, List.set_cons_succ])))
        (first | (refine Ord.skipH 17 42 rfl rfl (by kernel_rfl) (by kernel_rfl) (by kernel_rfl) (fun _ _ _ h => h) ?_ (by assumption) ?_; rfl; (try simp only [Act.put, List.setIfInBounds_toArray, List.set_cons_zero, List.set_cons_succ])) | (refine Ord.takeH 17 42 (v := ?_) rfl rfl (by kernel_rfl) (by kernel_rfl) (by kernel_rfl) (fun _ _ _ h => h) (by rfl) ?_ (by assumption) ?_; rotate_left; (intro w hSw; (try dsimp only at hSw); go_simp; (first | done | with_reducible rfl)); (try simp only [Act.put, List.setIfInBounds_toArray, List.set_cons_zero, List.set_cons_succ])))
        (first | (refine Ord.skipH 18 43 rfl rfl (by kernel_rfl) (by kernel_rfl) (by kernel_rfl) (fun _ _ _ h => h) ?_ (by assumption) ?_; rfl; (try simp only [Act.put, List.setIfInBounds_toArray, List.set_cons_zero, List.set_cons_succ])) | (refine Ord.takeH 18 43 (v := ?_) rfl rfl (by kernel_rfl) (by kernel_rfl) (by kernel_rfl) (fun _ _ _ h => h) (by rfl) ?_ (by assumption) ?_; rotate_left; (intro w hSw; (try dsimp only at hSw); go_simp; (first | done | with_reducible rfl)); (try simp only [Act.put, List.setIfInBounds_toArray, List.set_cons_zero, List.set_cons_succ])))
        (first | (refine Ord.skipH 19 44 rfl rfl (by kernel_rfl) (by kernel_rfl) (by kernel_rfl) (fun _ _ _ h => h) ?_ (by assumption) ?_; rfl; (try simp only [Act.put, List.setIfInBounds_toArray, List.set_cons_zero, List.set_cons_succ])) | (refine Ord.takeH 19 44 (v := ?_) rfl rfl (by kernel_rfl) (by kernel_rfl) (by kernel_rfl) (fun _ _ _ h => h) (by rfl) ?_ (by assumption) ?_; rotate_left; (intro w hSw; (try dsimp only at hSw); go_simp; (first | done | with_reducible rfl)); (try simp only [Act.put, List.setIfInBounds_toArray, List.set_cons_zero, List.set_cons_succ])))
        (first | (refine Ord.skipH 20 45 rfl rfl (by kernel_rfl) (by kernel_rfl) (by kernel_rfl) (fun _ _ _ h => h) ?_ (by assumption) ?_; rfl; (try simp only [Act.put, List.setIfInBounds_toArray, List.set_cons_zero, List.set_cons_succ])) | (refine Ord.takeH 20 45 (v := ?_) rfl rfl (by kernel_rfl) (by kernel_rfl) (by kernel_rfl) (fun _ _ _ h => h) (by rfl) ?_ (by assumption) ?_; rotate_left; (intro w hSw; (try dsimp only at hSw); go_simp; (first | done | with_reducible rfl)); (try simp only [Act.put, List.setIfInBounds_toArray, List.set_cons_zero, List.set_cons_succ])))
        (first | (refine Ord.skipH 21 46 rfl rfl (by kernel_rfl) (by kernel_rfl) (by kernel_rfl) (fun _ _ _ h => h) ?_ (by assumption) ?_; rfl; (try simp only [Act.put, List.setIfInBounds_toArray, List.set_cons_zero, List.set_cons_succ])) | (refine Ord.takeH 21 46 (v := ?_) rfl rfl (by kernel_rfl) (by kernel_rfl) (by kernel_rfl) (fun _ _ _ h => h) (by rfl) ?_ (by assumption) ?_; rotate_left; (intro w hSw; (try dsimp only at hSw); go_simp; (first | done | with_reducible rfl)); (try simp only [Act.put, List.setIfInBounds_toArray, List.set_cons_zero, List.set_cons_succ])))
        (first | (refine Ord.skipH 22 47 rfl rfl (by kernel_rfl) (by kernel_rfl) (by kernel_rfl) (fun _ _ _ h => h) ?_ (by assumption) ?_; rfl; (try simp only [Act.put, List.setIfInBounds_toArray, List.set_cons_zero, List.set_cons_succ])) | (refine Ord.takeH 22 47 (v := ?_) rfl rfl (by kernel_rfl) (by kernel_rfl) (by kernel_rfl) (fun _ _ _ h => h) (by rfl) ?_ (by assumption) ?_; rotate_left; (intro w hSw; (try dsimp only at hSw); go_simp; (first | done | with_reducible rfl)); (try simp only [Act.put, List.setIfInBounds_toArray, List.set_cons_zero, List.set_cons_succ])))
        (first | (refine Ord.skipH 23 48 rfl rfl (by kernel_rfl) (by kernel_rfl) (by kernel_rfl) (fun _ _ _ h => h) ?_ (by assumption) ?_; rfl; (try simp only [Act.put, List.setIfInBounds_toArray, List.set_cons_zero, List.set_cons_succ])) | (refine Ord.takeH 23 48 (v := ?_) rfl rfl (by kernel_rfl) (by kernel_rfl) (by kernel_rfl) (fun _ _ _ h => h) (by rfl) ?_ (by assumption) ?_; rotate_left; (intro w hSw; (try dsimp only at hSw); go_simp; (first | done | with_reducible rfl)); (try simp only [Act.put, List.setIfInBounds_toArray, List.set_cons_zero, List.set_cons_succ])))
        (first | (refine Ord.skipH 24 49 rfl rfl (by kernel_rfl) (by kernel_rfl) (by kernel_rfl) (fun _ _ _ h => h) ?_ (by assumption) ?_; rfl; (try simp only [Act.put, List.setIfInBounds_toArray, List.set_cons_zero, List.set_cons_succ])) | (refine Ord.takeH 24 49 (v := ?_) rfl rfl (by kernel_rfl) (by kernel_rfl) (by kernel_rfl) (fun _ _ _ h => h) (by rfl) ?_ (by assumption) ?_; rotate_left; (intro w hSw; (try dsimp only at hSw); go_simp; (first | done | with_reducible rfl)); (try simp only [Act.put, List.setIfInBounds_toArray, List.set_cons_zero, List.set_cons_succ])))
        (refine Ord.takeH 25 50 (v := ?_) rfl rfl (by kernel_rfl) (by kernel_rfl) (by kernel_rfl) (fun _ _ _ h => h) (by rfl) ?_ (by assumption) ?_; rotate_left; (intro w hSw; (try dsimp only at hSw); go_simp; (first | done | with_reducible rfl)); (try simp only [Act.put, List.setIfInBounds_toArray, List.set_cons_zero, List.set_cons_succ]))
        refine wpAnyH_done (by kernel_rfl) ?_ _
        go_wp2
        go_ret
        exact ⟨ret_bool H.out, ((Ext.refl _).alloc _).trans (HX.out.trans (by repeat (first | exact Ext.refl _ | assumption | apply Ext.alloc | apply Ext.drew | (refine Ext.trans ?_ (by assumption)) | (refine Ext.setNew ?_ (by simp <;> omega) _))))⟩
      cases hq : ptB (fx fs k).x (fx fs k).y
      · have H := Lib.hid (trB_no hk1 (okB_time (fxB_pt hq)))
        go_wp2_with fail
        refine wp_region_held_drew (S := (fun w' => w'.cell? ⟨wr.heap.size, 0, none⟩ = some (.int .i64 (fx fs k).t) ∧ w'.cell? ⟨wr.heap.size, 1, none⟩ = some (.int .i64 (fx fs k).x) ∧ w'.cell? ⟨wr.heap.size, 2, none⟩ = some (.int .i64 (fx fs k).y) ∧ w'.cell? ⟨w.heap.size, 0, none⟩ = some (.slice (some ⟨b, off, none⟩) fs.length cap))) (by kernel_rfl) (by (try dsimp only); first | go_keep | exact (Ext.refl _).drew | exact Res.new2.drew | exact Res.new4.drew | exact ResB.drew (by assumption) | exact ResC.drew (by assumption) | assumption | exact Ext.drew (by assumption) | exact Res.drew (by assumption)) (fun hHeld => ?_)
        (refine Ord.takeH 0 25 (v := ?_) rfl rfl (by kernel_rfl) (by kernel_rfl) (by kernel_rfl) (fun _ _ _ h => h) (by rfl) ?_ (by assumption) ?_; rotate_left; (intro w hSw; (try dsimp only at hSw); go_simp; (first | done | with_reducible rfl)); (try simp only [Act.put, List.setIfInBounds_toArray, List.set_cons_zero, List.set_cons_succ]))
        (refine Ord.takeH 1 26 (v := ?_) rfl rfl (by kernel_rfl) (by kernel_rfl) (by kernel_rfl) (fun _ _ _ h => h) (by rfl) ?_ (by assumption) ?_; rotate_left; (intro w hSw; (try dsimp only at hSw); go_simp; (first | done | with_reducible rfl)); (try simp only [Act.put, List.setIfInBounds_toArray, List.set_cons_zero, List.set_cons_succ]))
        (refine wpAnyH_ready (rs := [2]) (by kernel_rfl) (by simp) ?_; refine AllReadyH.cons rfl (fun K hK => ?_) AllReadyH.nil; go_simp; (first | (go_at_call 45; refine (in_any _ _ _ _).mono ?_; rintro e w1 ⟨rfl, rfl⟩) | (go_at_call 47; refine (point_spec _ _ _ _).mono ?_; rintro e w1 ⟨rfl, hy⟩) | (go_at_call 46; refine (isPoint_spec _ _ _).mono ?_; rintro e w1 ⟨rfl, hy⟩)); go_wp2_with fail; (refine hK.out _ _ (by first | assumption | exact Ext.trans (by assumption) hy | exact Res.ext (by assumption) hy | exact ResB.ext (by assumption) hy | exact ResC.ext (by assumption) hy | (go_split_ands; (repeat' apply And.intro) <;> exact Ext.cellOf hy (by assumption))) (fun hHeld => ?_)); clear hK K; (try simp only [Act.put, List.setIfInBounds_toArray, List.set_cons_zero, List.set_cons_succ]))
        (refine Ord.takeH 3 28 (v := ?_) rfl rfl (by kernel_rfl) (by kernel_rfl) (by kernel_rfl) (fun _ _ _ h => h) (by rfl) ?_ (by assumption) ?_; rotate_left; (intro w hSw; (try dsimp only at hSw); go_simp; (first | done | with_reducible rfl)); (try simp only [Act.put, List.setIfInBounds_toArray, List.set_cons_zero, List.set_cons_succ]))
        (refine Ord.takeH 4 29 (v := ?_) rfl rfl (by kernel_rfl) (by kernel_rfl) (by kernel_rfl) (fun _ _ _ h => h) (by rfl) ?_ (by assumption) ?_; rotate_left; (intro w hSw; (try dsimp only at hSw); go_simp; (first | done | with_reducible rfl)); (try simp only [Act.put, List.setIfInBounds_toArray, List.set_cons_zero, List.set_cons_succ]))
        (first | (refine Ord.skipH 5 30 rfl rfl (by kernel_rfl) (by kernel_rfl) (by kernel_rfl) (fun _ _ _ h => h) ?_ (by assumption) ?_; rfl; (try simp only [Act.put, List.setIfInBounds_toArray, List.set_cons_zero, List.set_cons_succ])) | (refine Ord.takeH 5 30 (v := ?_) rfl rfl (by kernel_rfl) (by kernel_rfl) (by kernel_rfl) (fun _ _ _ h => h) (by rfl) ?_ (by assumption) ?_; rotate_left; (intro w hSw; (try dsimp only at hSw); go_simp; (first | done | with_reducible rfl)); (try simp only [Act.put, List.setIfInBounds_toArray, List.set_cons_zero, List.set_cons_succ])))
        (first | (refine Ord.skipH 6 31 rfl rfl (by kernel_rfl) (by kernel_rfl) (by kernel_rfl) (fun _ _ _ h => h) ?_ (by assumption) ?_; rfl; (try simp only [Act.put, List.setIfInBounds_toArray, List.set_cons_zero, List.set_cons_succ])) | (refine wpAnyH_ready (rs := [6]) (by kernel_rfl) (by simp) ?_; refine AllReadyH.cons rfl (fun K hK => ?_) AllReadyH.nil; go_simp; (first | (go_at_call 45; refine (in_any _ _ _ _).mono ?_; rintro e w1 ⟨rfl, rfl⟩) | (go_at_call 47; refine (point_spec _ _ _ _).mono ?_; rintro e w1 ⟨rfl, hy⟩) | (go_at_call 46; refine (isPoint_spec _ _ _).mono ?_; rintro e w1 ⟨rfl, hy⟩)); go_wp2_with fail; (refine hK.out _ _ (by first | assumption | exact Ext.trans (by assumption) hy | exact Res.ext (by assumption) hy | exact ResB.ext (by assumption) hy | exact ResC.ext (by assumption) hy | (go_split_ands; (repeat' apply And.intro) <;> exact Ext.cellOf hy (by assumption))) (fun hHeld => ?_)); clear hK K; (try simp only [Act.put, List.setIfInBounds_toArray, List.set_cons_zero, List.set_cons_succ])))
        (first | (refine Ord.skipH 7 32 rfl rfl (by kernel_rfl) (by kernel_rfl) (by kernel_rfl) (fun _ _ _ h => h) ?_ (by assumption) ?_; rfl; (try simp only [Act.put, List.setIfInBounds_toArray, List.set_cons_zero, List.set_cons_succ])) | (refine wpAnyH_ready (rs := [7]) (by kernel_rfl) (by simp) ?_; refine AllReadyH.cons rfl (fun K hK => ?_) AllReadyH.nil; go_simp; (first | (go_at_call 45; refine (in_any _ _ _ _).mono ?_; rintro e w1 ⟨rfl, rfl⟩) | (go_at_call 47; refine (point_spec _ _ _ _).mono ?_; rintro e w1 ⟨rfl, hy⟩) | (go_at_call 46; refine (isPoint_spec _ _ _).mono ?_; rintro e w1 ⟨rfl, hy⟩)); go_wp2_with fail; (refine hK.out _ _ (by first | assumption | exact Ext.trans (by assumption) hy | exact Res.ext (by assumption) hy | exact ResB.ext (by assumption) hy | exact ResC.ext (by assumption) hy | (go_split_ands; (repeat' apply And.intro) <;> exact Ext.cellOf hy (by assumption))) (fun hHeld => ?_)); clear hK K; (try simp only [Act.put, List.setIfInBounds_toArray, List.set_cons_zero, List.set_cons_succ])))
        (first | (refine Ord.skipH 8 33 rfl rfl (by kernel_rfl) (by kernel_rfl) (by kernel_rfl) (fun _ _ _ h => h) ?_ (by assumption) ?_; rfl; (try simp only [Act.put, List.setIfInBounds_toArray, List.set_cons_zero, List.set_cons_succ])) | (refine Ord.takeH 8 33 (v := ?_) rfl rfl (by kernel_rfl) (by kernel_rfl) (by kernel_rfl) (fun _ _ _ h => h) (by rfl) ?_ (by assumption) ?_; rotate_left; (intro w hSw; (try dsimp only at hSw); go_simp; (first | done | with_reducible rfl)); (try simp only [Act.put, List.setIfInBounds_toArray, List.set_cons_zero, List.set_cons_succ])))
        (refine Ord.takeH 9 34 (v := ?_) rfl rfl (by kernel_rfl) (by kernel_rfl) (by kernel_rfl) (fun _ _ _ h => h) (by rfl) ?_ (by assumption) ?_; rotate_left; (intro w hSw; (try dsimp only at hSw); go_simp; (first | done | with_reducible rfl)); (try simp only [Act.put, List.setIfInBounds_toArray, List.set_cons_zero, List.set_cons_succ]))
        (refine Ord.takeH 10 35 (v := ?_) rfl rfl (by kernel_rfl) (by kernel_rfl) (by kernel_rfl) (fun _ _ _ h => h) (by rfl) ?_ (by assumption) ?_; rotate_left; (intro w hSw; (try dsimp only at hSw); go_simp; (first | done | with_reducible rfl)); (try simp only [Act.put, List.setIfInBounds_toArray, List.set_cons_zero, List.set_cons_succ]))
        (first | (refine Ord.skipH 11 36 rfl rfl (by kernel_rfl) (by kernel_rfl) (by kernel_rfl) (fun _ _ _ h => h) ?_ (by assumption) ?_; rfl; (try simp only [Act.put, List.setIfInBounds_toArray, List.set_cons_zero, List.set_cons_succ])) | (refine Ord.takeH 11 36 (v := ?_) rfl rfl (by kernel_rfl) (by kernel_rfl) (by kernel_rfl) (fun _ _ _ h => h) (by rfl) ?_ (by assumption) ?_; rotate_left; (intro w hSw; (try dsimp only at hSw); go_simp; (first | done | with_reducible rfl)); (try simp only [Act.put, List.setIfInBounds_toArray, List.set_cons_zero, List.set_cons_succ])))
        (first | (refine Ord.skipH 12 37 rfl rfl (by kernel_rfl) (by kernel_rfl) (by kernel_rfl) (fun _ _ _ h => h) ?_ (by assumption) ?_; rfl; (try simp only [Act.put, List.setIfInBounds_toArray, List.set_cons_zero, List.set_cons_succ])) | (refine Ord.takeH 12 37 (v := ?_) rfl rfl (by kernel_rfl) (by kernel_rfl) (by kernel_rfl) (fun _ _ _ h => h) (by rfl) ?_ (by assumption) ?_; rotate_left; (intro w hSw; (try dsimp only at hSw); go_simp; (first | done | with_reducible rfl)); (try simp only [Act.put, List.setIfInBounds_toArray, List.set_cons_zero, List.set_cons_succ])))
        (first | (refine Ord.skipH 13 38 rfl rfl (by kernel_rfl) (by kernel_rfl) (by kernel_rfl) (fun _ _ _ h => h) ?_ (by assumption) ?_; rfl; (try simp only [Act.put, List.setIfInBounds_toArray, List.set_cons_zero, List.set_cons_succ])) | (refine Ord.takeH 13 38 (v := ?_) rfl rfl (by kernel_rfl) (by kernel_rfl) (by kernel_rfl) (fun _ _ _ h => h) (by rfl) ?_ (by assumption) ?_; rotate_left; (intro w hSw; (try dsimp only at hSw); go_simp; (first | done | with_reducible rfl)); (try simp only [Act.put, List.setIfInBounds_toArray, List.set_cons_zero, List.set_cons_succ])))
        (first | (refine Ord.skipH 14 39 rfl rfl (by kernel_rfl) (by kernel_rfl) (by kernel_rfl) (fun _ _ _ h => h) ?_ (by assumption) ?_; rfl; (try simp only [Act.put, List.setIfInBounds_toArray, List.set_cons_zero, List.set_cons_succ])) | (refine Ord.takeH 14 39 (v := ?_) rfl rfl (by kernel_rfl) (by kernel_rfl) (by kernel_rfl) (fun _ _ _ h => h) (by rfl) ?_ (by assumption) ?_; rotate_left; (intro w hSw; (try dsimp only at hSw); go_simp; (first | done | with_reducible rfl)); (try simp only [Act.put, List.setIfInBounds_toArray, List.set_cons_zero, List.set_cons_succ])))
        (first | (refine Ord.skipH 15 40 rfl rfl (by kernel_rfl) (by kernel_rfl) (by kernel_rfl) (fun _ _ _ h => h) ?_ (by assumption) ?_; rfl; (try simp only [Act.put, List.setIfInBounds_toArray, List.set_cons_zero, List.set_cons_succ])) | (refine Ord.takeH 15 40 (v := ?_) rfl rfl (by kernel_rfl) (by kernel_rfl) (by kernel_rfl) (fun _ _ _ h => h) (by rfl) ?_ (by assumption) ?_; rotate_left; (intro w hSw; (try dsimp only at hSw); go_simp; (first | done | with_reducible rfl)); (try simp only [Act.put, List.setIfInBounds_toArray, List.set_cons_zero, List.set_cons_succ])))
        (first | (refine Ord.skipH 16 41 rfl rfl (by kernel_rfl) (by kernel_rfl) (by kernel_rfl) (fun _ _ _ h => h) ?_ (by assumption) ?_; rfl; (try simp only [Act.put, List.setIfInBounds_toArray, List.set_cons_zero, List.set_cons_succ])) | (refine Ord.takeH 16 41 (v := ?_) rfl rfl (by kernel_rfl) (by kernel_rfl) (by kernel_rfl) (fun _ _ _ h => h) (by rfl) ?_ (by assumption) ?_; rotate_left; (intro w hSw; (try dsimp only at hSw); go_simp; (first | done | with_reducible rfl)); (try simp only [Act.put, List.setIfInBounds_toArray, List.set_cons_zero, List.set_cons_succ])))
        (first | (refine Ord.skipH 17 42 rfl rfl (by kernel_rfl) (by kernel_rfl) (by kernel_rfl) (fun _ _ _ h => h) ?_ (by assumption) ?_; rfl; (try simp only [Act.put, List.setIfInBounds_toArray, List.set_cons_zero, List.set_cons_succ])) | (refine Ord.takeH 17 42 (v := ?_) rfl rfl (by kernel_rfl) (by kernel_rfl) (by kernel_rfl) (fun _ _ _ h => h) (by rfl) ?_ (by assumption) ?_; rotate_left; (intro w hSw; (try dsimp only at hSw); go_simp; (first | done | with_reducible rfl)); (try simp only [Act.put, List.setIfInBounds_toArray, List.set_cons_zero, List.set_cons_succ])))
        (first | (refine Ord.skipH 18 43 rfl rfl (by kernel_rfl) (by kernel_rfl) (by kernel_rfl) (fun _ _ _ h => h) ?_ (by assumption) ?_; rfl; (try simp only [Act.put, List.setIfInBounds_toArray, List.set_cons_zero, List.set_cons_succ])) | (refine Ord.takeH 18 43 (v := ?_) rfl rfl (by kernel_rfl) (by kernel_rfl) (by kernel_rfl) (fun _ _ _ h => h) (by rfl) ?_ (by assumption) ?_; rotate_left; (intro w hSw; (try dsimp only at hSw); go_simp; (first | done | with_reducible rfl)); (try simp only [Act.put, List.setIfInBounds_toArray, List.set_cons_zero, List.set_cons_succ])))
        (first | (refine Ord.skipH 19 44 rfl rfl (by kernel_rfl) (by kernel_rfl) (by kernel_rfl) (fun _ _ _ h => h) ?_ (by assumption) ?_; rfl; (try simp only [Act.put, List.setIfInBounds_toArray, List.set_cons_zero, List.set_cons_succ])) | (refine Ord.takeH 19 44 (v := ?_) rfl rfl (by kernel_rfl) (by kernel_rfl) (by kernel_rfl) (fun _ _ _ h => h) (by rfl) ?_ (by assumption) ?_; rotate_left; (intro w hSw; (try dsimp only at hSw); go_simp; (first | done | with_reducible rfl)); (try simp only [Act.put, List.setIfInBounds_toArray, List.set_cons_zero, List.set_cons_succ])))
        (first | (refine Ord.skipH 20 45 rfl rfl (by kernel_rfl) (by kernel_rfl) (by kernel_rfl) (fun _ _ _ h => h) ?_ (by assumption) ?_; rfl; (try simp only [Act.put, List.setIfInBounds_toArray, List.set_cons_zero, List.set_cons_succ])) | (refine Ord.takeH 20 45 (v := ?_) rfl rfl (by kernel_rfl) (by kernel_rfl) (by kernel_rfl) (fun _ _ _ h => h) (by rfl) ?_ (by assumption) ?_; rotate_left; (intro w hSw; (try dsimp only at hSw); go_simp; (first | done | with_reducible rfl)); (try simp only [Act.put, List.setIfInBounds_toArray, List.set_cons_zero, List.set_cons_succ])))
        (first | (refine Ord.skipH 21 46 rfl rfl (by kernel_rfl) (by kernel_rfl) (by kernel_rfl) (fun _ _ _ h => h) ?_ (by assumption) ?_; rfl; (try simp only [Act.put, List.setIfInBounds_toArray, List.set_cons_zero, List.set_cons_succ])) | (refine Ord.takeH 21 46 (v := ?_) rfl rfl (by kernel_rfl) (by kernel_rfl) (by kernel_rfl) (fun _ _ _ h => h) (by rfl) ?_ (by assumption) ?_; rotate_left; (intro w hSw; (try dsimp only at hSw); go_simp; (first | done | with_reducible rfl)); (try simp only [Act.put, List.setIfInBounds_toArray, List.set_cons_zero, List.set_cons_succ])))
        (first | (refine Ord.skipH 22 47 rfl rfl (by kernel_rfl) (by kernel_rfl) (by kernel_rfl) (fun _ _ _ h => h) ?_ (by assumption) ?_; rfl; (try simp only [Act.put, List.setIfInBounds_toArray, List.set_cons_zero, List.set_cons_succ])) | (refine Ord.takeH 22 47 (v := ?_) rfl rfl (by kernel_rfl) (by kernel_rfl) (by kernel_rfl) (fun _ _ _ h => h) (by rfl) ?_ (by assumption) ?_; rotate_left; (intro w hSw; (try dsimp only at hSw); go_simp; (first | done | with_reducible rfl)); (try simp only [Act.put, List.setIfInBounds_toArray, List.set_cons_zero, List.set_cons_succ])))
        (first | (refine Ord.skipH 23 48 rfl rfl (by kernel_rfl) (by kernel_rfl) (by kernel_rfl) (fun _ _ _ h => h) ?_ (by assumption) ?_; rfl; (try simp only [Act.put, List.setIfInBounds_toArray, List.set_cons_zero, List.set_cons_succ])) | (refine Ord.takeH 23 48 (v := ?_) rfl rfl (by kernel_rfl) (by kernel_rfl) (by kernel_rfl) (fun _ _ _ h => h) (by rfl) ?_ (by assumption) ?_; rotate_left; (intro w hSw; (try dsimp only at hSw); go_simp; (first | done | with_reducible rfl)); (try simp only [Act.put, List.setIfInBounds_toArray, List.set_cons_zero, List.set_cons_succ])))
        (first | (refine Ord.skipH 24 49 rfl rfl (by kernel_rfl) (by kernel_rfl) (by kernel_rfl) (fun _ _ _ h => h) ?_ (by assumption) ?_; rfl; (try simp only [Act.put, List.setIfInBounds_toArray, List.set_cons_zero, List.set_cons_succ])) | (refine Ord.takeH 24 49 (v := ?_) rfl rfl (by kernel_rfl) (by kernel_rfl) (by kernel_rfl) (fun _ _ _ h => h) (by rfl) ?_ (by assumption) ?_; rotate_left; (intro w hSw; (try dsimp only at hSw); go_simp; (first | done | with_reducible rfl)); (try simp only [Act.put, List.setIfInBounds_toArray, List.set_cons_zero, List.set_cons_succ])))
        (refine Ord.takeH 25 50 (v := ?_) rfl rfl (by kernel_rfl) (by kernel_rfl) (by kernel_rfl) (fun _ _ _ h => h) (by rfl) ?_ (by assumption) ?_; rotate_left; (intro w hSw; (try dsimp only at hSw); go_simp; (first | done | with_reducible rfl)); (try simp only [Act.put, List.setIfInBounds_toArray, List.set_cons_zero, List.set_cons_succ]))
        refine wpAnyH_done (by kernel_rfl) ?_ _
        go_wp2
        go_ret
        exact ⟨ret_bool H.out, ((Ext.refl _).alloc _).trans (HX.out.trans (by repeat (first | exact Ext.refl _ | assumption | apply Ext.alloc | apply Ext.drew | (refine Ext.trans ?_ (by assumption)) | (refine Ext.setNew ?_ (by simp <;> omega) _))))⟩
      have HV := Lib.hid (fxB_both hv hq)
      by_cases hk0 : k = 0
      · have H := Lib.hid (show okB fs k = true by have := HV.out; rw [hk0] at this ⊢; exact okB_zero this)
        have HK := Lib.hid hk0
        have z0 : decide (0 < k) = false := decide_eq_false (by omega)
        have z1 : decide ((0 : Int) < (k : Int)) = false := decide_eq_false (by omega)
        clear hk0
        go_wp2_with fail
        refine wp_region_held_drew (S := (fun w' => w'.cell? ⟨wr.heap.size, 0, none⟩ = some (.int .i64 (fx fs k).t) ∧ w'.cell? ⟨wr.heap.size, 1, none⟩ = some (.int .i64 (fx fs k).x) ∧ w'.cell? ⟨wr.heap.size, 2, none⟩ = some (.int .i64 (fx fs k).y) ∧ w'.cell? ⟨w.heap.size, 0, none⟩ = some (.slice (some ⟨b, off, none⟩) fs.length cap))) (by kernel_rfl) (by (try dsimp only); first | go_keep | exact (Ext.refl _).drew | exact Res.new2.drew | exact Res.new4.drew | exact ResB.drew (by assumption) | exact ResC.drew (by assumption) | assumption | exact Ext.drew (by assumption) | exact Res.drew (by assumption)) (fun hHeld => ?_)
        (refine Ord.takeH 0 25 (v := ?_) rfl rfl (by kernel_rfl) (by kernel_rfl) (by kernel_rfl) (fun _ _ _ h => h) (by rfl) ?_ (by assumption) ?_; rotate_left; (intro w hSw; (try dsimp only at hSw); go_simp; (first | done | with_reducible rfl)); (try simp only [Act.put, List.setIfInBounds_toArray, List.set_cons_zero, List.set_cons_succ]))
        (refine Ord.takeH 1 26 (v := ?_) rfl rfl (by kernel_rfl) (by kernel_rfl) (by kernel_rfl) (fun _ _ _ h => h) (by rfl) ?_ (by assumption) ?_; rotate_left; (intro w hSw; (try dsimp only at hSw); go_simp; (first | done | with_reducible rfl)); (try simp only [Act.put, List.setIfInBounds_toArray, List.set_cons_zero, List.set_cons_succ]))
        (refine wpAnyH_ready (rs := [2]) (by kernel_rfl) (by simp) ?_; refine AllReadyH.cons rfl (fun K hK => ?_) AllReadyH.nil; go_simp; (first | (go_at_call 45; refine (in_any _ _ _ _).mono ?_; rintro e w1 ⟨rfl, rfl⟩) | (go_at_call 47; refine (point_spec _ _ _ _).mono ?_; rintro e w1 ⟨rfl, hy⟩) | (go_at_call 46; refine (isPoint_spec _ _ _).mono ?_; rintro e w1 ⟨rfl, hy⟩)); go_wp2_with fail; (refine hK.out _ _ (by first | assumption | exact Ext.trans (by assumption) hy | exact Res.ext (by assumption) hy | exact ResB.ext (by assumption) hy | exact ResC.ext (by assumption) hy | (go_split_ands; (repeat' apply And.intro) <;> exact Ext.cellOf hy (by assumption))) (fun hHeld => ?_)); clear hK K; (try simp only [Act.put, List.setIfInBounds_toArray, List.set_cons_zero, List.set_cons_succ]))
        (refine Ord.takeH 3 28 (v := ?_) rfl rfl (by kernel_rfl) (by kernel_rfl) (by kernel_rfl) (fun _ _ _ h => h) (by rfl) ?_ (by assumption) ?_; rotate_left; (intro w hSw; (try dsimp only at hSw); go_simp; (first | done | with_reducible rfl)); (try simp only [Act.put, List.setIfInBounds_toArray, List.set_cons_zero, List.set_cons_succ]))
        (refine Ord.takeH 4 29 (v := ?_) rfl rfl (by kernel_rfl) (by kernel_rfl) (by kernel_rfl) (fun _ _ _ h => h) (by rfl) ?_ (by assumption) ?_; rotate_left; (intro w hSw; (try dsimp only at hSw); go_simp; (first | done | with_reducible rfl)); (try simp only [Act.put, List.setIfInBounds_toArray, List.set_cons_zero, List.set_cons_succ]))
        (first | (refine Ord.skipH 5 30 rfl rfl (by kernel_rfl) (by kernel_rfl) (by kernel_rfl) (fun _ _ _ h => h) ?_ (by assumption) ?_; rfl; (try simp only [Act.put, List.setIfInBounds_toArray, List.set_cons_zero, List.set_cons_succ])) | (refine Ord.takeH 5 30 (v := ?_) rfl rfl (by kernel_rfl) (by kernel_rfl) (by kernel_rfl) (fun _ _ _ h => h) (by rfl) ?_ (by assumption) ?_; rotate_left; (intro w hSw; (try dsimp only at hSw); go_simp; (first | done | with_reducible rfl)); (try simp only [Act.put, List.setIfInBounds_toArray, List.set_cons_zero, List.set_cons_succ])))
        (first | (refine Ord.skipH 6 31 rfl rfl (by kernel_rfl) (by kernel_rfl) (by kernel_rfl) (fun _ _ _ h => h) ?_ (by assumption) ?_; rfl; (try simp only [Act.put, List.setIfInBounds_toArray, List.set_cons_zero, List.set_cons_succ])) | (refine wpAnyH_ready (rs := [6]) (by kernel_rfl) (by simp) ?_; refine AllReadyH.cons rfl (fun K hK => ?_) AllReadyH.nil; go_simp; (first | (go_at_call 45; refine (in_any _ _ _ _).mono ?_; rintro e w1 ⟨rfl, rfl⟩) | (go_at_call 47; refine (point_spec _ _ _ _).mono ?_; rintro e w1 ⟨rfl, hy⟩) | (go_at_call 46; refine (isPoint_spec _ _ _).mono ?_; rintro e w1 ⟨rfl, hy⟩)); go_wp2_with fail; (refine hK.out _ _ (by first | assumption | exact Ext.trans (by assumption) hy | exact Res.ext (by assumption) hy | exact ResB.ext (by assumption) hy | exact ResC.ext (by assumption) hy | (go_split_ands; (repeat' apply And.intro) <;> exact Ext.cellOf hy (by assumption))) (fun hHeld => ?_)); clear hK K; (try simp only [Act.put, List.setIfInBounds_toArray, List.set_cons_zero, List.set_cons_succ])))
        (first | (refine Ord.skipH 7 32 rfl rfl (by kernel_rfl) (by kernel_rfl) (by kernel_rfl) (fun _ _ _ h => h) ?_ (by assumption) ?_; rfl; (try simp only [Act.put, List.setIfInBounds_toArray, List.set_cons_zero, List.set_cons_succ])) | (refine wpAnyH_ready (rs := [7]) (by kernel_rfl) (by simp) ?_; refine AllReadyH.cons rfl (fun K hK => ?_) AllReadyH.nil; go_simp; (first | (go_at_call 45; refine (in_any _ _ _ _).mono ?_; rintro e w1 ⟨rfl, rfl⟩) | (go_at_call 47; refine (point_spec _ _ _ _).mono ?_; rintro e w1 ⟨rfl, hy⟩) | (go_at_call 46; refine (isPoint_spec _ _ _).mono ?_; rintro e w1 ⟨rfl, hy⟩)); go_wp2_with fail; (refine hK.out _ _ (by first | assumption | exact Ext.trans (by assumption) hy | exact Res.ext (by assumption) hy | exact ResB.ext (by assumption) hy | exact ResC.ext (by assumption) hy | (go_split_ands; (repeat' apply And.intro) <;> exact Ext.cellOf hy (by assumption))) (fun hHeld => ?_)); clear hK K; (try simp only [Act.put, List.setIfInBounds_toArray, List.set_cons_zero, List.set_cons_succ])))
        (first | (refine Ord.skipH 8 33 rfl rfl (by kernel_rfl) (by kernel_rfl) (by kernel_rfl) (fun _ _ _ h => h) ?_ (by assumption) ?_; rfl; (try simp only [Act.put, List.setIfInBounds_toArray, List.set_cons_zero, List.set_cons_succ])) | (refine Ord.takeH 8 33 (v := ?_) rfl rfl (by kernel_rfl) (by kernel_rfl) (by kernel_rfl) (fun _ _ _ h => h) (by rfl) ?_ (by assumption) ?_; rotate_left; (intro w hSw; (try dsimp only at hSw); go_simp; (first | done | with_reducible rfl)); (try simp only [Act.put, List.setIfInBounds_toArray, List.set_cons_zero, List.set_cons_succ])))
        (refine Ord.takeH 9 34 (v := ?_) rfl rfl (by kernel_rfl) (by kernel_rfl) (by kernel_rfl) (fun _ _ _ h => h) (by rfl) ?_ (by assumption) ?_; rotate_left; (intro w hSw; (try dsimp only at hSw); go_simp; (first | done | with_reducible rfl)); (try simp only [Act.put, List.setIfInBounds_toArray, List.set_cons_zero, List.set_cons_succ]))
        (refine Ord.takeH 10 35 (v := ?_) rfl rfl (by kernel_rfl) (by kernel_rfl) (by kernel_rfl) (fun _ _ _ h => h) (by rfl) ?_ (by assumption) ?_; rotate_left; (intro w hSw; (try dsimp only at hSw); go_simp; (first | done | with_reducible rfl)); (try simp only [Act.put, List.setIfInBounds_toArray, List.set_cons_zero, List.set_cons_succ]))
        (first | (refine Ord.skipH 11 36 rfl rfl (by kernel_rfl) (by kernel_rfl) (by kernel_rfl) (fun _ _ _ h => h) ?_ (by assumption) ?_; rfl; (try simp only [Act.put, List.setIfInBounds_toArray, List.set_cons_zero, List.set_cons_succ])) | (refine Ord.takeH 11 36 (v := ?_) rfl rfl (by kernel_rfl) (by kernel_rfl) (by kernel_rfl) (fun _ _ _ h => h) (by rfl) ?_ (by assumption) ?_; rotate_left; (intro w hSw; (try dsimp only at hSw); go_simp; (first | done | with_reducible rfl)); (try simp only [Act.put, List.setIfInBounds_toArray, List.set_cons_zero, List.set_cons_succ])))
        (first | (refine Ord.skipH 12 37 rfl rfl (by kernel_rfl) (by kernel_rfl) (by kernel_rfl) (fun _ _ _ h => h) ?_ (by assumption) ?_; rfl; (try simp only [Act.put, List.setIfInBounds_toArray, List.set_cons_zero, List.set_cons_succ])) | (refine Ord.takeH 12 37 (v := ?_) rfl rfl (by kernel_rfl) (by kernel_rfl) (by kernel_rfl) (fun _ _ _ h => h) (by rfl) ?_ (by assumption) ?_; rotate_left; (intro w hSw; (try dsimp only at hSw); go_simp; (first | done | with_reducible rfl)); (try simp only [Act.put, List.setIfInBounds_toArray, List.set_cons_zero, List.set_cons_succ])))
        (first | (refine Ord.skipH 13 38 rfl rfl (by kernel_rfl) (by kernel_rfl) (by kernel_rfl) (fun _ _ _ h => h) ?_ (by assumption) ?_; rfl; (try simp only [Act.put, List.setIfInBounds_toArray, List.set_cons_zero, List.set_cons_succ])) | (refine Ord.takeH 13 38 (v := ?_) rfl rfl (by kernel_rfl) (by kernel_rfl) (by kernel_rfl) (fun _ _ _ h => h) (by rfl) ?_ (by assumption) ?_; rotate_left; (intro w hSw; (try dsimp only at hSw); go_simp; (first | done | with_reducible rfl)); (try simp only [Act.put, List.setIfInBounds_toArray, List.set_cons_zero, List.set_cons_succ])))
        (first | (refine Ord.skipH 14 39 rfl rfl (by kernel_rfl) (by kernel_rfl) (by kernel_rfl) (fun _ _ _ h => h) ?_ (by assumption) ?_; rfl; (try simp only [Act.put, List.setIfInBounds_toArray, List.set_cons_zero, List.set_cons_succ])) | (refine Ord.takeH 14 39 (v := ?_) rfl rfl (by kernel_rfl) (by kernel_rfl) (by kernel_rfl) (fun _ _ _ h => h) (by rfl) ?_ (by assumption) ?_; rotate_left; (intro w hSw; (try dsimp only at hSw); go_simp; (first | done | with_reducible rfl)); (try simp only [Act.put, List.setIfInBounds_toArray, List.set_cons_zero, List.set_cons_succ])))
        (first | (refine Ord.skipH 15 40 rfl rfl (by kernel_rfl) (by kernel_rfl) (by kernel_rfl) (fun _ _ _ h => h) ?_ (by assumption) ?_; rfl; (try simp only [Act.put, List.setIfInBounds_toArray, List.set_cons_zero, List.set_cons_succ])) | (refine Ord.takeH 15 40 (v := ?_) rfl rfl (by kernel_rfl) (by kernel_rfl) (by kernel_rfl) (fun _ _ _ h => h) (by rfl) ?_ (by assumption) ?_; rotate_left; (intro w hSw; (try dsimp only at hSw); go_simp; (first | done | with_reducible rfl)); (try simp only [Act.put, List.setIfInBounds_toArray, List.set_cons_zero, List.set_cons_succ])))
        (first | (refine Ord.skipH 16 41 rfl rfl (by kernel_rfl) (by kernel_rfl) (by kernel_rfl) (fun _ _ _ h => h) ?_ (by assumption) ?_; rfl; (try simp only [Act.put, List.setIfInBounds_toArray, List.set_cons_zero, List.set_cons_succ])) | (refine Ord.takeH 16 41 (v := ?_) rfl rfl (by kernel_rfl) (by kernel_rfl) (by kernel_rfl) (fun _ _ _ h => h) (by rfl) ?_ (by assumption) ?_; rotate_left; (intro w hSw; (try dsimp only at hSw); go_simp; (first | done | with_reducible rfl)); (try simp only [Act.put, List.setIfInBounds_toArray, List.set_cons_zero, List.set_cons_succ])))
        (first | (refine Ord.skipH 17 42 rfl rfl (by kernel_rfl) (by kernel_rfl) (by kernel_rfl) (fun _ _ _ h => h) ?_ (by assumption) ?_; rfl; (try simp only [Act.put, List.setIfInBounds_toArray, List.set_cons_zero, List.set_cons_succ])) | (refine Ord.takeH 17 42 (v := ?_) rfl rfl (by kernel_rfl) (by kernel_rfl) (by kernel_rfl) (fun _ _ _ h => h) (by rfl) ?_ (by assumption) ?_; rotate_left; (intro w hSw; (try dsimp only at hSw); go_simp; (first | done | with_reducible rfl)); (try simp only [Act.put, List.setIfInBounds_toArray, List.set_cons_zero, List.set_cons_succ])))
        (first | (refine Ord.skipH 18 43 rfl rfl (by kernel_rfl) (by kernel_rfl) (by kernel_rfl) (fun _ _ _ h => h) ?_ (by assumption) ?_; rfl; (try simp only [Act.put, List.setIfInBounds_toArray, List.set_cons_zero, List.set_cons_succ])) | (refine Ord.takeH 18 43 (v := ?_) rfl rfl (by kernel_rfl) (by kernel_rfl) (by kernel_rfl) (fun _ _ _ h => h) (by rfl) ?_ (by assumption) ?_; rotate_left; (intro w hSw; (try dsimp only at hSw); go_simp; (first | done | with_reducible rfl)); (try simp only [Act.put, List.setIfInBounds_toArray, List.set_cons_zero, List.set_cons_succ])))
        (first | (refine Ord.skipH 19 44 rfl rfl (by kernel_rfl) (by kernel_rfl) (by kernel_rfl) (fun _ _ _ h => h) ?_ (by assumption) ?_; rfl; (try simp only [Act.put, List.setIfInBounds_toArray, List.set_cons_zero, List.set_cons_succ])) | (refine Ord.takeH 19 44 (v := ?_) rfl rfl (by kernel_rfl) (by kernel_rfl) (by kernel_rfl) (fun _ _ _ h => h) (by rfl) ?_ (by assumption) ?_; rotate_left; (intro w hSw; (try dsimp only at hSw); go_simp; (first | done | with_reducible rfl)); (try simp only [Act.put, List.setIfInBounds_toArray, List.set_cons_zero, List.set_cons_succ])))
        (first | (refine Ord.skipH 20 45 rfl rfl (by kernel_rfl) (by kernel_rfl) (by kernel_rfl) (fun _ _ _ h => h) ?_ (by assumption) ?_; rfl; (try simp only [Act.put, List.setIfInBounds_toArray, List.set_cons_zero, List.set_cons_succ])) | (refine Ord.takeH 20 45 (v := ?_) rfl rfl (by kernel_rfl) (by kernel_rfl) (by kernel_rfl) (fun _ _ _ h => h) (by rfl) ?_ (by assumption) ?_; rotate_left; (intro w hSw; (try dsimp only at hSw); go_simp; (first | done | with_reducible rfl)); (try simp only [Act.put, List.setIfInBounds_toArray, List.set_cons_zero, List.set_cons_succ])))
        (first | (refine Ord.skipH 21 46 rfl rfl (by kernel_rfl) (by kernel_rfl) (by kernel_rfl) (fun _ _ _ h => h) ?_ (by assumption) ?_; rfl; (try simp only [Act.put, List.setIfInBounds_toArray, List.set_cons_zero, List.set_cons_succ])) | (refine Ord.takeH 21 46 (v := ?_) rfl rfl (by kernel_rfl) (by kernel_rfl) (by kernel_rfl) (fun _ _ _ h => h) (by rfl) ?_ (by assumption) ?_; rotate_left; (intro w hSw; (try dsimp only at hSw); go_simp; (first | done | with_reducible rfl)); (try simp only [Act.put, List.setIfInBounds_toArray, List.set_cons_zero, List.set_cons_succ])))
        (first | (refine Ord.skipH 22 47 rfl rfl (by kernel_rfl) (by kernel_rfl) (by kernel_rfl) (fun _ _ _ h => h) ?_ (by assumption) ?_; rfl; (try simp only [Act.put, List.setIfInBounds_toArray, List.set_cons_zero, List.set_cons_succ])) | (refine Ord.takeH 22 47 (v := ?_) rfl rfl (by kernel_rfl) (by kernel_rfl) (by kernel_rfl) (fun _ _ _ h => h) (by rfl) ?_ (by assumption) ?_; rotate_left; (intro w hSw; (try dsimp only at hSw); go_simp; (first | done | with_reducible rfl)); (try simp only [Act.put, List.setIfInBounds_toArray, List.set_cons_zero, List.set_cons_succ])))
        (first | (refine Ord.skipH 23 48 rfl rfl (by kernel_rfl) (by kernel_rfl) (by kernel_rfl) (fun _ _ _ h => h) ?_ (by assumption) ?_; rfl; (try simp only [Act.put, List.setIfInBounds_toArray, List.set_cons_zero, List.set_cons_succ])) | (refine Ord.takeH 23 48 (v := ?_) rfl rfl (by kernel_rfl) (by kernel_rfl) (by kernel_rfl) (fun _ _ _ h => h) (by rfl) ?_ (by assumption) ?_; rotate_left; (intro w hSw; (try dsimp only at hSw); go_simp; (first | done | with_reducible rfl)); (try simp only [Act.put, List.setIfInBounds_toArray, List.set_cons_zero, List.set_cons_succ])))
        (first | (refine Ord.skipH 24 49 rfl rfl (by kernel_rfl) (by kernel_rfl) (by kernel_rfl) (fun _ _ _ h => h) ?_ (by assumption) ?_; rfl; (try simp only [Act.put, List.setIfInBounds_toArray, List.set_cons_zero, List.set_cons_succ])) | (refine Ord.takeH 24 49 (v := ?_) rfl rfl (by kernel_rfl) (by kernel_rfl) (by kernel_rfl) (fun _ _ _ h => h) (by rfl) ?_ (by assumption) ?_; rotate_left; (intro w hSw; (try dsimp only at hSw); go_simp; (first | done | with_reducible rfl)); (try simp only [Act.put, List.setIfInBounds_toArray, List.set_cons_zero, List.set_cons_succ])))
        (refine Ord.takeH 25 50 (v := ?_) rfl rfl (by kernel_rfl) (by kernel_rfl) (by kernel_rfl) (fun _ _ _ h => h) (by rfl) ?_ (by assumption) ?_; rotate_left; (intro w hSw; (try dsimp only at hSw); go_simp; (first | done | with_reducible rfl)); (try simp only [Act.put, List.setIfInBounds_toArray, List.set_cons_zero, List.set_cons_succ]))
        refine wpAnyH_done (by kernel_rfl) ?_ _
        go_wp2
        go_roundw
        case rel => exact RelV.step HD.out hk1 H.out HX.out (by repeat (first | exact Ext.refl _ | assumption | apply Ext.alloc | apply Ext.drew | (refine Ext.trans ?_ (by assumption)) | (refine Ext.setNew ?_ (by simp <;> omega) _)))
        case measure => simp [intOf]; omega
      · have HOK := Lib.hid (show okB fs k = decide ((fx fs (k - 1)).t < (fx fs k).t) by have := HV.out; obtain ⟨j, rfl⟩ : ∃ j, k = j + 1 := ⟨k - 1, by omega⟩; exact okB_succ this)
        obtain ⟨p0, _, _⟩ := ((HB.out (k - 1) (by omega)).ext ((Ext.refl _).alloc _)).ext HX.out
        have z0 : decide (0 < k) = true := decide_eq_true (by omega)
        have z1 : decide ((0 : Int) < (k : Int)) = true := decide_eq_true (by omega)
        have t2 : (0 : Int) ≤ (k : Int) - 1 := by omega
        have t3 : (1 : Int) ≤ (k : Int) := by omega
        have t4 : (k : Int) - 1 < (fs.length : Int) := by omega
        have T0 : IntKind.i64.wrap ((k : Int) - 1) = (k : Int) - 1 := IntWalk.i64_in _ (by omega)
        have T1 : ((k : Int) - 1).toNat = k - 1 := by omega
        by_cases hlt : (fx fs (k - 1)).t < (fx fs k).t
        · have H := Lib.hid (show okB fs k = true by rw [HOK.out]; exact decide_eq_true hlt)
          have z2 : decide ((fx fs k).t ≤ (fx fs (k - 1)).t) = false := decide_eq_false (by omega)
          go_wp2_with fail
          refine wp_region_held_drew (S := (fun w' => w'.cell? ⟨wr.heap.size, 0, none⟩ = some (.int .i64 (fx fs k).t) ∧ w'.cell? ⟨wr.heap.size, 1, none⟩ = some (.int .i64 (fx fs k).x) ∧ w'.cell? ⟨wr.heap.size, 2, none⟩ = some (.int .i64 (fx fs k).y) ∧ w'.cell? ⟨w.heap.size, 0, none⟩ = some (.slice (some ⟨b, off, none⟩) fs.length cap) ∧ w'.cell? ⟨b, off + (k - 1) * 3, none⟩ = some (.int .i64 (fx fs (k - 1)).t))) (by kernel_rfl) (by (try dsimp only); first | go_keep | exact (Ext.refl _).drew | exact Res.new2.drew | exact Res.new4.drew | exact ResB.drew (by assumption) | exact ResC.drew (by assumption) | assumption | exact Ext.drew (by assumption) | exact Res.drew (by assumption)) (fun hHeld => ?_)
          (refine Ord.takeH 0 25 (v := ?_) rfl rfl (by kernel_rfl) (by kernel_rfl) (by kernel_rfl) (fun _ _ _ h => h) (by rfl) ?_ (by assumption) ?_; rotate_left; (intro w hSw; (try dsimp only at hSw); go_simp; (first | done | with_reducible rfl)); (try simp only [Act.put, List.setIfInBounds_toArray, List.set_cons_zero, List.set_cons_succ]))
          (refine Ord.takeH 1 26 (v := ?_) rfl rfl (by kernel_rfl) (by kernel_rfl) (by kernel_rfl) (fun _ _ _ h => h) (by rfl) ?_ (by assumption) ?_; rotate_left; (intro w hSw; (try dsimp only at hSw); go_simp; (first | done | with_reducible rfl)); (try simp only [Act.put, List.setIfInBounds_toArray, List.set_cons_zero, List.set_cons_succ]))
          (refine wpAnyH_ready (rs := [2]) (by kernel_rfl) (by simp) ?_; refine AllReadyH.cons rfl (fun K hK => ?_) AllReadyH.nil; go_simp; (first | (go_at_call 45; refine (in_any _ _ _ _).mono ?_; rintro e w1 ⟨rfl, rfl⟩) | (go_at_call 47; refine (point_spec _ _ _ _).mono ?_; rintro e w1 ⟨rfl, hy⟩) | (go_at_call 46; refine (isPoint_spec _ _ _).mono ?_; rintro e w1 ⟨rfl, hy⟩)); go_wp2_with fail; (refine hK.out _ _ (by first | assumption | exact Ext.trans (by assumption) hy | exact Res.ext (by assumption) hy | exact ResB.ext (by assumption) hy | exact ResC.ext (by assumption) hy | (go_split_ands; (repeat' apply And.intro) <;> exact Ext.cellOf hy (by assumption))) (fun hHeld => ?_)); clear hK K; (try simp only [Act.put, List.setIfInBounds_toArray, List.set_cons_zero, List.set_cons_succ]))
          (refine Ord.takeH 3 28 (v := ?_) rfl rfl (by kernel_rfl) (by kernel_rfl) (by kernel_rfl) (fun _ _ _ h => h) (by rfl) ?_ (by assumption) ?_; rotate_left; (intro w hSw; (try dsimp only at hSw); go_simp; (first | done | with_reducible rfl)); (try simp only [Act.put, List.setIfInBounds_toArray, List.set_cons_zero, List.set_cons_succ]))
          (refine Ord.takeH 4 29 (v := ?_) rfl rfl (by kernel_rfl) (by kernel_rfl) (by kernel_rfl) (fun _ _ _ h => h) (by rfl) ?_ (by assumption) ?_; rotate_left; (intro w hSw; (try dsimp only at hSw); go_simp; (first | done | with_reducible rfl)); (try simp only [Act.put, List.setIfInBounds_toArray, List.set_cons_zero, List.set_cons_succ]))
          (first | (refine Ord.skipH 5 30 rfl rfl (by kernel_rfl) (by kernel_rfl) (by kernel_rfl) (fun _ _ _ h => h) ?_ (by assumption) ?_; rfl; (try simp only [Act.put, List.setIfInBounds_toArray, List.set_cons_zero, List.set_cons_succ])) | (refine Ord.takeH 5 30 (v := ?_) rfl rfl (by kernel_rfl) (by kernel_rfl) (by kernel_rfl) (fun _ _ _ h => h) (by rfl) ?_ (by assumption) ?_; rotate_left; (intro w hSw; (try dsimp only at hSw); go_simp; (first | done | with_reducible rfl)); (try simp only [Act.put, List.setIfInBounds_toArray, List.set_cons_zero, List.set_cons_succ])))
          (first | (refine Ord.skipH 6 31 rfl rfl (by kernel_rfl) (by kernel_rfl) (by kernel_rfl) (fun _ _ _ h => h) ?_ (by assumption) ?_; rfl; (try simp only [Act.put, List.setIfInBounds_toArray, List.set_cons_zero, List.set_cons_succ])) | (refine wpAnyH_ready (rs := [6]) (by kernel_rfl) (by simp) ?_; refine AllReadyH.cons rfl (fun K hK => ?_) AllReadyH.nil; go_simp; (first | (go_at_call 45; refine (in_any _ _ _ _).mono ?_; rintro e w1 ⟨rfl, rfl⟩) | (go_at_call 47; refine (point_spec _ _ _ _).mono ?_; rintro e w1 ⟨rfl, hy⟩) | (go_at_call 46; refine (isPoint_spec _ _ _).mono ?_; rintro e w1 ⟨rfl, hy⟩)); go_wp2_with fail; (refine hK.out _ _ (by first | assumption | exact Ext.trans (by assumption) hy | exact Res.ext (by assumption) hy | exact ResB.ext (by assumption) hy | exact ResC.ext (by assumption) hy | (go_split_ands; (repeat' apply And.intro) <;> exact Ext.cellOf hy (by assumption))) (fun hHeld => ?_)); clear hK K; (try simp only [Act.put, List.setIfInBounds_toArray, List.set_cons_zero, List.set_cons_succ])))
          (first | (refine Ord.skipH 7 32 rfl rfl (by kernel_rfl) (by kernel_rfl) (by kernel_rfl) (fun _ _ _ h => h) ?_ (by assumption) ?_; rfl; (try simp only [Act.put, List.setIfInBounds_toArray, List.set_cons_zero, List.set_cons_succ])) | (refine wpAnyH_ready (rs := [7]) (by kernel_rfl) (by simp) ?_; refine AllReadyH.cons rfl (fun K hK => ?_) AllReadyH.nil; go_simp; (first | (go_at_call 45; refine (in_any _ _ _ _).mono ?_; rintro e w1 ⟨rfl, rfl⟩) | (go_at_call 47; refine (point_spec _ _ _ _).mono ?_; rintro e w1 ⟨rfl, hy⟩) | (go_at_call 46; refine (isPoint_spec _ _ _).mono ?_; rintro e w1 ⟨rfl, hy⟩)); go_wp2_with fail; (refine hK.out _ _ (by first | assumption | exact Ext.trans (by assumption) hy | exact Res.ext (by assumption) hy | exact ResB.ext (by assumption) hy | exact ResC.ext (by assumption) hy | (go_split_ands; (repeat' apply And.intro) <;> exact Ext.cellOf hy (by assumption))) (fun hHeld => ?_)); clear hK K; (try simp only [Act.put, List.setIfInBounds_toArray, List.set_cons_zero, List.set_cons_succ])))
          (first | (refine Ord.skipH 8 33 rfl rfl (by kernel_rfl) (by kernel_rfl) (by kernel_rfl) (fun _ _ _ h => h) ?_ (by assumption) ?_; rfl; (try simp only [Act.put, List.setIfInBounds_toArray, List.set_cons_zero, List.set_cons_succ])) | (refine Ord.takeH 8 33 (v := ?_) rfl rfl (by kernel_rfl) (by kernel_rfl) (by kernel_rfl) (fun _ _ _ h => h) (by rfl) ?_ (by assumption) ?_; rotate_left; (intro w hSw; (try dsimp only at hSw); go_simp; (first | done | with_reducible rfl)); (try simp only [Act.put, List.setIfInBounds_toArray, List.set_cons_zero, List.set_cons_succ])))
          (refine Ord.takeH 9 34 (v := ?_) rfl rfl (by kernel_rfl) (by kernel_rfl) (by kernel_rfl) (fun _ _ _ h => h) (by rfl) ?_ (by assumption) ?_; rotate_left; (intro w hSw; (try dsimp only at hSw); go_simp; (first | done | with_reducible rfl)); (try simp only [Act.put, List.setIfInBounds_toArray, List.set_cons_zero, List.set_cons_succ]))
          (refine Ord.takeH 10 35 (v := ?_) rfl rfl (by kernel_rfl) (by kernel_rfl) (by kernel_rfl) (fun _ _ _ h => h) (by rfl) ?_ (by assumption) ?_; rotate_left; (intro w hSw; (try dsimp only at hSw); go_simp; (first | done | with_reducible rfl)); (try simp only [Act.put, List.setIfInBounds_toArray, List.set_cons_zero, List.set_cons_succ]))
          (first | (refine Ord.skipH 11 36 rfl rfl (by kernel_rfl) (by kernel_rfl) (by kernel_rfl) (fun _ _ _ h => h) ?_ (by assumption) ?_; rfl; (try simp only [Act.put, List.setIfInBounds_toArray, List.set_cons_zero, List.set_cons_succ])) | (refine Ord.takeH 11 36 (v := ?_) rfl rfl (by kernel_rfl) (by kernel_rfl) (by kernel_rfl) (fun _ _ _ h => h) (by rfl) ?_ (by assumption) ?_; rotate_left; (intro w hSw; (try dsimp only at hSw); go_simp; (first | done | with_reducible rfl)); (try simp only [Act.put, List.setIfInBounds_toArray, List.set_cons_zero, List.set_cons_succ])))
          (first | (refine Ord.skipH 12 37 rfl rfl (by kernel_rfl) (by kernel_rfl) (by kernel_rfl) (fun _ _ _ h => h) ?_ (by assumption) ?_; rfl; (try simp only [Act.put, List.setIfInBounds_toArray, List.set_cons_zero, List.set_cons_succ])) | (refine Ord.takeH 12 37 (v := ?_) rfl rfl (by kernel_rfl) (by kernel_rfl) (by kernel_rfl) (fun _ _ _ h => h) (by rfl) ?_ (by assumption) ?_; rotate_left; (intro w hSw; (try dsimp only at hSw); go_simp; (first | done | with_reducible rfl)); (try simp only [Act.put, List.setIfInBounds_toArray, List.set_cons_zero, List.set_cons_succ])))
          (first | (refine Ord.skipH 13 38 rfl rfl (by kernel_rfl) (by kernel_rfl) (by kernel_rfl) (fun _ _ _ h => h) ?_ (by assumption) ?_; rfl; (try simp only [Act.put, List.setIfInBounds_toArray, List.set_cons_zero, List.set_cons_succ])) | (refine Ord.takeH 13 38 (v := ?_) rfl rfl (by kernel_rfl) (by kernel_rfl) (by kernel_rfl) (fun _ _ _ h => h) (by rfl) ?_ (by assumption) ?_; rotate_left; (intro w hSw; (try dsimp only at hSw); go_simp; (first | done | with_reducible rfl)); (try simp only [Act.put, List.setIfInBounds_toArray, List.set_cons_zero, List.set_cons_succ])))
          (first | (refine Ord.skipH 14 39 rfl rfl (by kernel_rfl) (by kernel_rfl) (by kernel_rfl) (fun _ _ _ h => h) ?_ (by assumption) ?_; rfl; (try simp only [Act.put, List.setIfInBounds_toArray, List.set_cons_zero, List.set_cons_succ])) | (refine Ord.takeH 14 39 (v := ?_) rfl rfl (by kernel_rfl) (by kernel_rfl) (by kernel_rfl) (fun _ _ _ h => h) (by rfl) ?_ (by assumption) ?_; rotate_left; (intro w hSw; (try dsimp only at hSw); go_simp; (first | done | with_reducible rfl)); (try simp only [Act.put, List.setIfInBounds_toArray, List.set_cons_zero, List.set_cons_succ])))
          (first | (refine Ord.skipH 15 40 rfl rfl (by kernel_rfl) (by kernel_rfl) (by kernel_rfl) (fun _ _ _ h => h) ?_ (by assumption) ?_; rfl; (try simp only [Act.put, List.setIfInBounds_toArray, List.set_cons_zero, List.set_cons_succ])) | (refine Ord.takeH 15 40 (v := ?_) rfl rfl (by kernel_rfl) (by kernel_rfl) (by kernel_rfl) (fun _ _ _ h => h) (by rfl) ?_ (by assumption) ?_; rotate_left; (intro w hSw; (try dsimp only at hSw); go_simp; (first | done | with_reducible rfl)); (try simp only [Act.put, List.setIfInBounds_toArray, List.set_cons_zero, List.set_cons_succ])))
          (first | (refine Ord.skipH 16 41 rfl rfl (by kernel_rfl) (by kernel_rfl) (by kernel_rfl) (fun _ _ _ h => h) ?_ (by assumption) ?_; rfl; (try simp only [Act.put, List.setIfInBounds_toArray, List.set_cons_zero, List.set_cons_succ])) | (refine Ord.takeH 16 41 (v := ?_) rfl rfl (by kernel_rfl) (by kernel_rfl) (by kernel_rfl) (fun _ _ _ h => h) (by rfl) ?_ (by assumption) ?_; rotate_left; (intro w hSw; (try dsimp only at hSw); go_simp; (first | done | with_reducible rfl)); (try simp only [Act.put, List.setIfInBounds_toArray, List.set_cons_zero, List.set_cons_succ])))
          (first | (refine Ord.skipH 17 42 rfl rfl (by kernel_rfl) (by kernel_rfl) (by kernel_rfl) (fun _ _ _ h => h) ?_ (by assumption) ?_; rfl; (try simp only [Act.put, List.setIfInBounds_toArray, List.set_cons_zero, List.set_cons_succ])) | (refine Ord.takeH 17 42 (v := ?_) rfl rfl (by kernel_rfl) (by kernel_rfl) (by kernel_rfl) (fun _ _ _ h => h) (by rfl) ?_ (by assumption) ?_; rotate_left; (intro w hSw; (try dsimp only at hSw); go_simp; (first | done | with_reducible rfl)); (try simp only [Act.put, List.setIfInBounds_toArray, List.set_cons_zero, List.set_cons_succ])))
          (first | (refine Ord.skipH 18 43 rfl rfl (by kernel_rfl) (by kernel_rfl) (by kernel_rfl) (fun _ _ _ h => h) ?_ (by assumption) ?_; rfl; (try simp only [Act.put, List.setIfInBounds_toArray, List.set_cons_zero, List.set_cons_succ])) | (refine Ord.takeH 18 43 (v := ?_) rfl rfl (by kernel_rfl) (by kernel_rfl) (by kernel_rfl) (fun _ _ _ h => h) (by rfl) ?_ (by assumption) ?_; rotate_left; (intro w hSw; (try dsimp only at hSw); go_simp; (first | done | with_reducible rfl)); (try simp only [Act.put, List.setIfInBounds_toArray, List.set_cons_zero, List.set_cons_succ])))
          (first | (refine Ord.skipH 19 44 rfl rfl (by kernel_rfl) (by kernel_rfl) (by kernel_rfl) (fun _ _ _ h => h) ?_ (by assumption) ?_; rfl; (try simp only [Act.put, List.setIfInBounds_toArray, List.set_cons_zero, List.set_cons_succ])) | (refine Ord.takeH 19 44 (v := ?_) rfl rfl (by kernel_rfl) (by kernel_rfl) (by kernel_rfl) (fun _ _ _ h => h) (by rfl) ?_ (by assumption) ?_; rotate_left; (intro w hSw; (try dsimp only at hSw); go_simp; (first | done | with_reducible rfl)); (try simp only [Act.put, List.setIfInBounds_toArray, List.set_cons_zero, List.set_cons_succ])))
          (first | (refine Ord.skipH 20 45 rfl rfl (by kernel_rfl) (by kernel_rfl) (by kernel_rfl) (fun _ _ _ h => h) ?_ (by assumption) ?_; rfl; (try simp only [Act.put, List.setIfInBounds_toArray, List.set_cons_zero, List.set_cons_succ])) | (refine Ord.takeH 20 45 (v := ?_) rfl rfl (by kernel_rfl) (by kernel_rfl) (by kernel_rfl) (fun _ _ _ h => h) (by rfl) ?_ (by assumption) ?_; rotate_left; (intro w hSw; (try dsimp only at hSw); go_simp; (first | done | with_reducible rfl)); (try simp only [Act.put, List.setIfInBounds_toArray, List.set_cons_zero, List.set_cons_succ])))
          (first | (refine Ord.skipH 21 46 rfl rfl (by kernel_rfl) (by kernel_rfl) (by kernel_rfl) (fun _ _ _ h => h) ?_ (by assumption) ?_; rfl; (try simp only [Act.put, List.setIfInBounds_toArray, List.set_cons_zero, List.set_cons_succ])) | (refine Ord.takeH 21 46 (v := ?_) rfl rfl (by kernel_rfl) (by kernel_rfl) (by kernel_rfl) (fun _ _ _ h => h) (by rfl) ?_ (by assumption) ?_; rotate_left; (intro w hSw; (try dsimp only at hSw); go_simp; (first | done | with_reducible rfl)); (try simp only [Act.put, List.setIfInBounds_toArray, List.set_cons_zero, List.set_cons_succ])))
          (first | (refine Ord.skipH 22 47 rfl rfl (by kernel_rfl) (by kernel_rfl) (by kernel_rfl) (fun _ _ _ h => h) ?_ (by assumption) ?_; rfl; (try simp only [Act.put, List.setIfInBounds_toArray, List.set_cons_zero, List.set_cons_succ])) | (refine Ord.takeH 22 47 (v := ?_) rfl rfl (by kernel_rfl) (by kernel_rfl) (by kernel_rfl) (fun _ _ _ h => h) (by rfl) ?_ (by assumption) ?_; rotate_left; (intro w hSw; (try dsimp only at hSw); go_simp; (first | done | with_reducible rfl)); (try simp only [Act.put, List.setIfInBounds_toArray, List.set_cons_zero, List.set_cons_succ])))
          (first | (refine Ord.skipH 23 48 rfl rfl (by kernel_rfl) (by kernel_rfl) (by kernel_rfl) (fun _ _ _ h => h) ?_ (by assumption) ?_; rfl; (try simp only [Act.put, List.setIfInBounds_toArray, List.set_cons_zero, List.set_cons_succ])) | (refine Ord.takeH 23 48 (v := ?_) rfl rfl (by kernel_rfl) (by kernel_rfl) (by kernel_rfl) (fun _ _ _ h => h) (by rfl) ?_ (by assumption) ?_; rotate_left; (intro w hSw; (try dsimp only at hSw); go_simp; (first | done | with_reducible rfl)); (try simp only [Act.put, List.setIfInBounds_toArray, List.set_cons_zero, List.set_cons_succ])))
          (first | (refine Ord.skipH 24 49 rfl rfl (by kernel_rfl) (by kernel_rfl) (by kernel_rfl) (fun _ _ _ h => h) ?_ (by assumption) ?_; rfl; (try simp only [Act.put, List.setIfInBounds_toArray, List.set_cons_zero, List.set_cons_succ])) | (refine Ord.takeH 24 49 (v := ?_) rfl rfl (by kernel_rfl) (by kernel_rfl) (by kernel_rfl) (fun _ _ _ h => h) (by rfl) ?_ (by assumption) ?_; rotate_left; (intro w hSw; (try dsimp only at hSw); go_simp; (first | done | with_reducible rfl)); (try simp only [Act.put, List.setIfInBounds_toArray, List.set_cons_zero, List.set_cons_succ])))
          (refine Ord.takeH 25 50 (v := ?_) rfl rfl (by kernel_rfl) (by kernel_rfl) (by kernel_rfl) (fun _ _ _ h => h) (by rfl) ?_ (by assumption) ?_; rotate_left; (intro w hSw; (try dsimp only at hSw); go_simp; (first | done | with_reducible rfl)); (try simp only [Act.put, List.setIfInBounds_toArray, List.set_cons_zero, List.set_cons_succ]))
          refine wpAnyH_done (by kernel_rfl) ?_ _
          clear T0 T1
          go_wp2
          go_roundw
          case rel => exact RelV.step HD.out hk1 H.out HX.out (by repeat (first | exact Ext.refl _ | assumption | apply Ext.alloc | apply Ext.drew | (refine Ext.trans ?_ (by assumption)) | (refine Ext.setNew ?_ (by simp <;> omega) _)))
          case measure => simp [intOf]; omega
        · have H := Lib.hid (trB_no hk1 (show okB fs k = false by rw [HOK.out]; exact decide_eq_false hlt))
          have z2 : decide ((fx fs k).t ≤ (fx fs (k - 1)).t) = true := decide_eq_true (by omega)
          go_wp2_with fail
          refine wp_region_held_drew (S := (fun w' => w'.cell? ⟨wr.heap.size, 0, none⟩ = some (.int .i64 (fx fs k).t) ∧ w'.cell? ⟨wr.heap.size, 1, none⟩ = some (.int .i64 (fx fs k).x) ∧ w'.cell? ⟨wr.heap.size, 2, none⟩ = some (.int .i64 (fx fs k).y) ∧ w'.cell? ⟨w.heap.size, 0, none⟩ = some (.slice (some ⟨b, off, none⟩) fs.length cap) ∧ w'.cell? ⟨b, off + (k - 1) * 3, none⟩ = some (.int .i64 (fx fs (k - 1)).t))) (by kernel_rfl) (by (try dsimp only); first | go_keep | exact (Ext.refl _).drew | exact Res.new2.drew | exact Res.new4.drew | exact ResB.drew (by assumption) | exact ResC.drew (by assumption) | assumption | exact Ext.drew (by assumption) | exact Res.drew (by assumption)) (fun hHeld => ?_)
          (refine Ord.takeH 0 25 (v := ?_) rfl rfl (by kernel_rfl) (by kernel_rfl) (by kernel_rfl) (fun _ _ _ h => h) (by rfl) ?_ (by assumption) ?_; rotate_left; (intro w hSw; (try dsimp only at hSw); go_simp; (first | done | with_reducible rfl)); (try simp only [Act.put, List.setIfInBounds_toArray, List.set_cons_zero, List.set_cons_succ]))
          (refine Ord.takeH 1 26 (v := ?_) rfl rfl (by kernel_rfl) (by kernel_rfl) (by kernel_rfl) (fun _ _ _ h => h) (by rfl) ?_ (by assumption) ?_; rotate_left; (intro w hSw; (try dsimp only at hSw); go_simp; (first | done | with_reducible rfl)); (try simp only [Act.put, List.setIfInBounds_toArray, List.set_cons_zero, List.set_cons_succ]))
          (refine wpAnyH_ready (rs := [2]) (by kernel_rfl) (by simp) ?_; refine AllReadyH.cons rfl (fun K hK => ?_) AllReadyH.nil; go_simp; (first | (go_at_call 45; refine (in_any _ _ _ _).mono ?_; rintro e w1 ⟨rfl, rfl⟩) | (go_at_call 47; refine (point_spec _ _ _ _).mono ?_; rintro e w1 ⟨rfl, hy⟩) | (go_at_call 46; refine (isPoint_spec _ _ _).mono ?_; rintro e w1 ⟨rfl, hy⟩)); go_wp2_with fail; (refine hK.out _ _ (by first | assumption | exact Ext.trans (by assumption) hy | exact Res.ext (by assumption) hy | exact ResB.ext (by assumption) hy | exact ResC.ext (by assumption) hy | (go_split_ands; (repeat' apply And.intro) <;> exact Ext.cellOf hy (by assumption))) (fun hHeld => ?_)); clear hK K; (try simp only [Act.put, List.setIfInBounds_toArray, List.set_cons_zero, List.set_cons_succ]))
          (refine Ord.takeH 3 28 (v := ?_) rfl rfl (by kernel_rfl) (by kernel_rfl) (by kernel_rfl) (fun _ _ _ h => h) (by rfl) ?_ (by assumption) ?_; rotate_left; (intro w hSw; (try dsimp only at hSw); go_simp; (first | done | with_reducible rfl)); (try simp only [Act.put, List.setIfInBounds_toArray, List.set_cons_zero, List.set_cons_succ]))
          (refine Ord.takeH 4 29 (v := ?_) rfl rfl (by kernel_rfl) (by kernel_rfl) (by kernel_rfl) (fun _ _ _ h => h) (by rfl) ?_ (by assumption) ?_; rotate_left; (intro w hSw; (try dsimp only at hSw); go_simp; (first | done | with_reducible rfl)); (try simp only [Act.put, List.setIfInBounds_toArray, List.set_cons_zero, List.set_cons_succ]))
          (first | (refine Ord.skipH 5 30 rfl rfl (by kernel_rfl) (by kernel_rfl) (by kernel_rfl) (fun _ _ _ h => h) ?_ (by assumption) ?_; rfl; (try simp only [Act.put, List.setIfInBounds_toArray, List.set_cons_zero, List.set_cons_succ])) | (refine Ord.takeH 5 30 (v := ?_) rfl rfl (by kernel_rfl) (by kernel_rfl) (by kernel_rfl) (fun _ _ _ h => h) (by rfl) ?_ (by assumption) ?_; rotate_left; (intro w hSw; (try dsimp only at hSw); go_simp; (first | done | with_reducible rfl)); (try simp only [Act.put, List.setIfInBounds_toArray, List.set_cons_zero, List.set_cons_succ])))
          (first | (refine Ord.skipH 6 31 rfl rfl (by kernel_rfl) (by kernel_rfl) (by kernel_rfl) (fun _ _ _ h => h) ?_ (by assumption) ?_; rfl; (try simp only [Act.put, List.setIfInBounds_toArray, List.set_cons_zero, List.set_cons_succ])) | (refine wpAnyH_ready (rs := [6]) (by kernel_rfl) (by simp) ?_; refine AllReadyH.cons rfl (fun K hK => ?_) AllReadyH.nil; go_simp; (first | (go_at_call 45; refine (in_any _ _ _ _).mono ?_; rintro e w1 ⟨rfl, rfl⟩) | (go_at_call 47; refine (point_spec _ _ _ _).mono ?_; rintro e w1 ⟨rfl, hy⟩) | (go_at_call 46; refine (isPoint_spec _ _ _).mono ?_; rintro e w1 ⟨rfl, hy⟩)); go_wp2_with fail; (refine hK.out _ _ (by first | assumption | exact Ext.trans (by assumption) hy | exact Res.ext (by assumption) hy | exact ResB.ext (by assumption) hy | exact ResC.ext (by assumption) hy | (go_split_ands; (repeat' apply And.intro) <;> exact Ext.cellOf hy (by assumption))) (fun hHeld => ?_)); clear hK K; (try simp only [Act.put, List.setIfInBounds_toArray, List.set_cons_zero, List.set_cons_succ])))
          (first | (refine Ord.skipH 7 32 rfl rfl (by kernel_rfl) (by kernel_rfl) (by kernel_rfl) (fun _ _ _ h => h) ?_ (by assumption) ?_; rfl; (try simp only [Act.put, List.setIfInBounds_toArray, List.set_cons_zero, List.set_cons_succ])) | (refine wpAnyH_ready (rs := [7]) (by kernel_rfl) (by simp) ?_; refine AllReadyH.cons rfl (fun K hK => ?_) AllReadyH.nil; go_simp; (first | (go_at_call 45; refine (in_any _ _ _ _).mono ?_; rintro e w1 ⟨rfl, rfl⟩) | (go_at_call 47; refine (point_spec _ _ _ _).mono ?_; rintro e w1 ⟨rfl, hy⟩) | (go_at_call 46; refine (isPoint_spec _ _ _).mono ?_; rintro e w1 ⟨rfl, hy⟩)); go_wp2_with fail; (refine hK.out _ _ (by first | assumption | exact Ext.trans (by assumption) hy | exact Res.ext (by assumption) hy | exact ResB.ext (by assumption) hy | exact ResC.ext (by assumption) hy | (go_split_ands; (repeat' apply And.intro) <;> exact Ext.cellOf hy (by assumption))) (fun hHeld => ?_)); clear hK K; (try simp only [Act.put, List.setIfInBounds_toArray, List.set_cons_zero, List.set_cons_succ])))
          (first | (refine Ord.skipH 8 33 rfl rfl (by kernel_rfl) (by kernel_rfl) (by kernel_rfl) (fun _ _ _ h => h) ?_ (by assumption) ?_; rfl; (try simp only [Act.put, List.setIfInBounds_toArray, List.set_cons_zero, List.set_cons_succ])) | (refine Ord.takeH 8 33 (v := ?_) rfl rfl (by kernel_rfl) (by kernel_rfl) (by kernel_rfl) (fun _ _ _ h => h) (by rfl) ?_ (by assumption) ?_; rotate_left; (intro w hSw; (try dsimp only at hSw); go_simp; (first | done | with_reducible rfl)); (try simp only [Act.put, List.setIfInBounds_toArray, List.set_cons_zero, List.set_cons_succ])))
          (refine Ord.takeH 9 34 (v := ?_) rfl rfl (by kernel_rfl) (by kernel_rfl) (by kernel_rfl) (fun _ _ _ h => h) (by rfl) ?_ (by assumption) ?_; rotate_left; (intro w hSw; (try dsimp only at hSw); go_simp; (first | done | with_reducible rfl)); (try simp only [Act.put, List.setIfInBounds_toArray, List.set_cons_zero, List.set_cons_succ]))
          (refine Ord.takeH 10 35 (v := ?_) rfl rfl (by kernel_rfl) (by kernel_rfl) (by kernel_rfl) (fun _ _ _ h => h) (by rfl) ?_ (by assumption) ?_; rotate_left; (intro w hSw; (try dsimp only at hSw); go_simp; (first | done | with_reducible rfl)); (try simp only [Act.put, List.setIfInBounds_toArray, List.set_cons_zero, List.set_cons_succ]))
          (first | (refine Ord.skipH 11 36 rfl rfl (by kernel_rfl) (by kernel_rfl) (by kernel_rfl) (fun _ _ _ h => h) ?_ (by assumption) ?_; rfl; (try simp only [Act.put, List.setIfInBounds_toArray, List.set_cons_zero, List.set_cons_succ])) | (refine Ord.takeH 11 36 (v := ?_) rfl rfl (by kernel_rfl) (by kernel_rfl) (by kernel_rfl) (fun _ _ _ h => h) (by rfl) ?_ (by assumption) ?_; rotate_left; (intro w hSw; (try dsimp only at hSw); go_simp; (first | done | with_reducible rfl)); (try simp only [Act.put, List.setIfInBounds_toArray, List.set_cons_zero, List.set_cons_succ])))
          (first | (refine Ord.skipH 12 37 rfl rfl (by kernel_rfl) (by kernel_rfl) (by kernel_rfl) (fun _ _ _ h => h) ?_ (by assumption) ?_; rfl; (try simp only [Act.put, List.setIfInBounds_toArray, List.set_cons_zero, List.set_cons_succ])) | (refine Ord.takeH 12 37 (v := ?_) rfl rfl (by kernel_rfl) (by kernel_rfl) (by kernel_rfl) (fun _ _ _ h => h) (by rfl) ?_ (by assumption) ?_; rotate_left; (intro w hSw; (try dsimp only at hSw); go_simp; (first | done | with_reducible rfl)); (try simp only [Act.put, List.setIfInBounds_toArray, List.set_cons_zero, List.set_cons_succ])))
          (first | (refine Ord.skipH 13 38 rfl rfl (by kernel_rfl) (by kernel_rfl) (by kernel_rfl) (fun _ _ _ h => h) ?_ (by assumption) ?_; rfl; (try simp only [Act.put, List.setIfInBounds_toArray, List.set_cons_zero, List.set_cons_succ])) | (refine Ord.takeH 13 38 (v := ?_) rfl rfl (by kernel_rfl) (by kernel_rfl) (by kernel_rfl) (fun _ _ _ h => h) (by rfl) ?_ (by assumption) ?_; rotate_left; (intro w hSw; (try dsimp only at hSw); go_simp; (first | done | with_reducible rfl)); (try simp only [Act.put, List.setIfInBounds_toArray, List.set_cons_zero, List.set_cons_succ])))
          (first | (refine Ord.skipH 14 39 rfl rfl (by kernel_rfl) (by kernel_rfl) (by kernel_rfl) (fun _ _ _ h => h) ?_ (by assumption) ?_; rfl; (try simp only [Act.put, List.setIfInBounds_toArray, List.set_cons_zero, List.set_cons_succ])) | (refine Ord.takeH 14 39 (v := ?_) rfl rfl (by kernel_rfl) (by kernel_rfl) (by kernel_rfl) (fun _ _ _ h => h) (by rfl) ?_ (by assumption) ?_; rotate_left; (intro w hSw; (try dsimp only at hSw); go_simp; (first | done | with_reducible rfl)); (try simp only [Act.put, List.setIfInBounds_toArray, List.set_cons_zero, List.set_cons_succ])))
          (first | (refine Ord.skipH 15 40 rfl rfl (by kernel_rfl) (by kernel_rfl) (by kernel_rfl) (fun _ _ _ h => h) ?_ (by assumption) ?_; rfl; (try simp only [Act.put, List.setIfInBounds_toArray, List.set_cons_zero, List.set_cons_succ])) | (refine Ord.takeH 15 40 (v := ?_) rfl rfl (by kernel_rfl) (by kernel_rfl) (by kernel_rfl) (fun _ _ _ h => h) (by rfl) ?_ (by assumption) ?_; rotate_left; (intro w hSw; (try dsimp only at hSw); go_simp; (first | done | with_reducible rfl)); (try simp only [Act.put, List.setIfInBounds_toArray, List.set_cons_zero, List.set_cons_succ])))
          (first | (refine Ord.skipH 16 41 rfl rfl (by kernel_rfl) (by kernel_rfl) (by kernel_rfl) (fun _ _ _ h => h) ?_ (by assumption) ?_; rfl; (try simp only [Act.put, List.setIfInBounds_toArray, List.set_cons_zero, List.set_cons_succ])) | (refine Ord.takeH 16 41 (v := ?_) rfl rfl (by kernel_rfl) (by kernel_rfl) (by kernel_rfl) (fun _ _ _ h => h) (by rfl) ?_ (by assumption) ?_; rotate_left; (intro w hSw; (try dsimp only at hSw); go_simp; (first | done | with_reducible rfl)); (try simp only [Act.put, List.setIfInBounds_toArray, List.set_cons_zero, List.set_cons_succ])))
          (first | (refine Ord.skipH 17 42 rfl rfl (by kernel_rfl) (by kernel_rfl) (by kernel_rfl) (fun _ _ _ h => h) ?_ (by assumption) ?_; rfl; (try simp only [Act.put, List.setIfInBounds_toArray, List.set_cons_zero, List.set_cons_succ])) | (refine Ord.takeH 17 42 (v := ?_) rfl rfl (by kernel_rfl) (by kernel_rfl) (by kernel_rfl) (fun _ _ _ h => h) (by rfl) ?_ (by assumption) ?_; rotate_left; (intro w hSw; (try dsimp only at hSw); go_simp; (first | done | with_reducible rfl)); (try simp only [Act.put, List.setIfInBounds_toArray, List.set_cons_zero, List.set_cons_succ])))
          (first | (refine Ord.skipH 18 43 rfl rfl (by kernel_rfl) (by kernel_rfl) (by kernel_rfl) (fun _ _ _ h => h) ?_ (by assumption) ?_; rfl; (try simp only [Act.put, List.setIfInBounds_toArray, List.set_cons_zero, List.set_cons_succ])) | (refine Ord.takeH 18 43 (v := ?_) rfl rfl (by kernel_rfl) (by kernel_rfl) (by kernel_rfl) (fun _ _ _ h => h) (by rfl) ?_ (by assumption) ?_; rotate_left; (intro w hSw; (try dsimp only at hSw); go_simp; (first | done | with_reducible rfl)); (try simp only [Act.put, List.setIfInBounds_toArray, List.set_cons_zero, List.set_cons_succ])))
          (first | (refine Ord.skipH 19 44 rfl rfl (by kernel_rfl) (by kernel_rfl) (by kernel_rfl) (fun _ _ _ h => h) ?_ (by assumption) ?_; rfl; (try simp only [Act.put, List.setIfInBounds_toArray, List.set_cons_zero, List.set_cons_succ])) | (refine Ord.takeH 19 44 (v := ?_) rfl rfl (by kernel_rfl) (by kernel_rfl) (by kernel_rfl) (fun _ _ _ h => h) (by rfl) ?_ (by assumption) ?_; rotate_left; (intro w hSw; (try dsimp only at hSw); go_simp; (first | done | with_reducible rfl)); (try simp only [Act.put, List.setIfInBounds_toArray, List.set_cons_zero, List.set_cons_succ])))
          (first | (refine Ord.skipH 20 45 rfl rfl (by kernel_rfl) (by kernel_rfl) (by kernel_rfl) (fun _ _ _ h => h) ?_ (by assumption) ?_; rfl; (try simp only [Act.put, List.setIfInBounds_toArray, List.set_cons_zero, List.set_cons_succ])) | (refine Ord.takeH 20 45 (v := ?_) rfl rfl (by kernel_rfl) (by kernel_rfl) (by kernel_rfl) (fun _ _ _ h => h) (by rfl) ?_ (by assumption) ?_; rotate_left; (intro w hSw; (try dsimp only at hSw); go_simp; (first | done | with_reducible rfl)); (try simp only [Act.put, List.setIfInBounds_toArray, List.set_cons_zero, List.set_cons_succ])))
          (first | (refine Ord.skipH 21 46 rfl rfl (by kernel_rfl) (by kernel_rfl) (by kernel_rfl) (fun _ _ _ h => h) ?_ (by assumption) ?_; rfl; (try simp only [Act.put, List.setIfInBounds_toArray, List.set_cons_zero, List.set_cons_succ])) | (refine Ord.takeH 21 46 (v := ?_) rfl rfl (by kernel_rfl) (by kernel_rfl) (by kernel_rfl) (fun _ _ _ h => h) (by rfl) ?_ (by assumption) ?_; rotate_left; (intro w hSw; (try dsimp only at hSw); go_simp; (first | done | with_reducible rfl)); (try simp only [Act.put, List.setIfInBounds_toArray, List.set_cons_zero, List.set_cons_succ])))
          (first | (refine Ord.skipH 22 47 rfl rfl (by kernel_rfl) (by kernel_rfl) (by kernel_rfl) (fun _ _ _ h => h) ?_ (by assumption) ?_; rfl; (try simp only [Act.put, List.setIfInBounds_toArray, List.set_cons_zero, List.set_cons_succ])) | (refine Ord.takeH 22 47 (v := ?_) rfl rfl (by kernel_rfl) (by kernel_rfl) (by kernel_rfl) (fun _ _ _ h => h) (by rfl) ?_ (by assumption) ?_; rotate_left; (intro w hSw; (try dsimp only at hSw); go_simp; (first | done | with_reducible rfl)); (try simp only [Act.put, List.setIfInBounds_toArray, List.set_cons_zero, List.set_cons_succ])))
          (first | (refine Ord.skipH 23 48 rfl rfl (by kernel_rfl) (by kernel_rfl) (by kernel_rfl) (fun _ _ _ h => h) ?_ (by assumption) ?_; rfl; (try simp only [Act.put, List.setIfInBounds_toArray, List.set_cons_zero, List.set_cons_succ])) | (refine Ord.takeH 23 48 (v := ?_) rfl rfl (by kernel_rfl) (by kernel_rfl) (by kernel_rfl) (fun _ _ _ h => h) (by rfl) ?_ (by assumption) ?_; rotate_left; (intro w hSw; (try dsimp only at hSw); go_simp; (first | done | with_reducible rfl)); (try simp only [Act.put, List.setIfInBounds_toArray, List.set_cons_zero, List.set_cons_succ])))
          (first | (refine Ord.skipH 24 49 rfl rfl (by kernel_rfl) (by kernel_rfl) (by kernel_rfl) (fun _ _ _ h => h) ?_ (by assumption) ?_; rfl; (try simp only [Act.put, List.setIfInBounds_toArray, List.set_cons_zero, List.set_cons_succ])) | (refine Ord.takeH 24 49 (v := ?_) rfl rfl (by kernel_rfl) (by kernel_rfl) (by kernel_rfl) (fun _ _ _ h => h) (by rfl) ?_ (by assumption) ?_; rotate_left; (intro w hSw; (try dsimp only at hSw); go_simp; (first | done | with_reducible rfl)); (try simp only [Act.put, List.setIfInBounds_toArray, List.set_cons_zero, List.set_cons_succ])))
          (refine Ord.takeH 25 50 (v := ?_) rfl rfl (by kernel_rfl) (by kernel_rfl) (by kernel_rfl) (fun _ _ _ h => h) (by rfl) ?_ (by assumption) ?_; rotate_left; (intro w hSw; (try dsimp only at hSw); go_simp; (first | done | with_reducible rfl)); (try simp only [Act.put, List.setIfInBounds_toArray, List.set_cons_zero, List.set_cons_succ]))
          refine wpAnyH_done (by kernel_rfl) ?_ _
          clear T0 T1
          go_wp2
          go_ret
          exact ⟨ret_bool H.out, ((Ext.refl _).alloc _).trans (HX.out.trans (by repeat (first | exact Ext.refl _ | assumption | apply Ext.alloc | apply Ext.drew | (refine Ext.trans ?_ (by assumption)) | (refine Ext.setNew ?_ (by simp <;> omega) _))))⟩
    · obtain rfl : k = fs.length := by omega
      have H := Lib.hid (trB_all (by omega) (by omega) HD.out)
      go_wp2
      go_ret
      exact ⟨ret_bool H.out, ((Ext.refl _).alloc _).trans HX.out⟩

end Go.Proofs.Ytccggjhmnbebbaa.Trk

/- Contracts of the search for the leg at a time (impl, spec), and of the checks ahead of it. -/
namespace Go.Proofs.Ytccggjhmnbebbaa.Trk
open Go.ChangeShapes Go.WideShapes Go.ChangeAt Go.RowKit
open Go.Proofs.Ytccggjhmnbebbaa.Num Go.Proofs.Ytccggjhmnbebbaa.Kit Go.Proofs.Ytccggjhmnbebbaa.Pts
set_option linter.unusedVariables false
set_option linter.unusedSimpArgs false

abbrev FxV (f : F3) : Value := Fx f.t f.x f.y

theorem wrap_pred {n : Nat} (h1 : 1 ≤ n) (hm : n ≤ maxLen) : IntKind.i64.wrap ((n : Int) - 1) = (n : Int) - 1 := IntWalk.i64_in _ (by unfold maxLen at hm; omega)
theorem wrap_succ {n : Nat} (hm : n ≤ 1000000) : IntKind.i64.wrap ((n : Int) + 1) = (n : Int) + 1 := IntWalk.i64_in _ (by omega)
/-- A cell behind two new blocks. -/
theorem two_on {w : World} {p : Addr} {v : Value} (h : w.cell? p = some v) : ∀ A B, ((w.alloc A).alloc B).cell? p = some v := fun A B => (((Ext.refl w).alloc A).alloc B).cellOf h
theorem one_on {w : World} {p : Addr} {v : Value} (h : w.cell? p = some v) : ∀ A, (w.alloc A).cell? p = some v := fun A => ((Ext.refl w).alloc A).cellOf h

/-- A field of a fix that a call returned. -/
theorem fieldT (f : F3) (w : World) : (Instr.field 38 (.agg #[.int .i64 f.t, .int .i64 f.x, .int .i64 f.y]) 0).run Try.prog w = .ok (.int .i64 f.t) w := by kernel_rfl

/-- Does a track of that list last at a time? -/
def lastB (fs : List F3) (t : Int) : Bool := inB t (fx fs 0).t (fx fs (fs.length - 1)).t

end Go.Proofs.Ytccggjhmnbebbaa.Trk
