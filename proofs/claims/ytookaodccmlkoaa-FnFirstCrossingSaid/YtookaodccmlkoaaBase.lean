/- The small parts of this claim in one text: words on worlds, numbers, points, segments, tracks. -/
import Derived.Test.YtookaodccmlkoaaRows
import Derived.WalkKit
import Derived.ProofKit
import Derived.OpenShut
import Derived.Lib.Hide
import Derived.ChangeOld
import Derived.Below
import Derived.Deep.Draws
import Derived.WalkSmall
import Derived.Deep.RegionHeld3
import Derived.Deep.QuietTactic
import Derived.BigQuiet
import Derived.Deep.LoopGhost
import Derived.OwnWalk
import Derived.Laws.OwnMore
import Derived.KernelRfl
import Derived.Test.YtookaodccmlkoaaShelf
import Derived.RegionTactic
import Derived.BigRegion

/- Contracts of the functions on numbers of chapter 1 (impl and spec): what each call returns, as a plain Lean function; the world stays. -/
namespace Go.Proofs.Ytookaodccmlkoaa.Num
open Go.ChangeShapes Go.WideShapes Go.ChangeAt Go.RowKit
set_option linter.unusedVariables false

theorem ret_int {k : IntKind} {a b : Int} (h : b = a) : Ending.returned (.int k a) = .returned (.int k b) := by rw [h]
theorem ret_bool {a b : Bool} (h : b = a) : Ending.returned (.bool a) = .returned (.bool b) := by rw [h]
theorem ret_int2 {k l : IntKind} {a b c d : Int} (h : b = a) (g : d = c) : Ending.returned (.tuple #[.int k a, .int l c]) = .returned (.tuple #[.int k b, .int l d]) := by rw [h, g]

def inB (n lo hi : Int) : Bool := decide (lo ≤ n ∧ n ≤ hi)
theorem inB_yes {n lo hi : Int} (h1 : lo ≤ n) (h2 : n ≤ hi) : inB n lo hi = true := by unfold inB; exact decide_eq_true ⟨h1, h2⟩
theorem inB_no {n lo hi : Int} (h : ¬ (lo ≤ n ∧ n ≤ hi)) : inB n lo hi = false := by unfold inB; exact decide_eq_false h
theorem of_inB {n lo hi : Int} (h : inB n lo hi = true) : lo ≤ n ∧ n ≤ hi := by unfold inB at h; exact of_decide_eq_true h
theorem not_inB {n lo hi : Int} (h : inB n lo hi = false) : n < lo ∨ hi < n := by unfold inB at h; have := of_decide_eq_false h; omega

theorem in_any (n lo hi : Int) (w : World) : Calls Try.prog 70 #[.int .i64 n, .int .i64 lo, .int .i64 hi] w fun e w' => e = .returned (.bool (inB n lo hi)) ∧ w = w' := by
  by_cases h1 : lo ≤ n
  · by_cases h2 : n ≤ hi
    · have H := Lib.hid (inB_yes h1 h2)
      go_enter Try.func70, Try.ntmps70
      go_wp2
      go_ret
      exact ⟨ret_bool H.out, rfl⟩
    · have H := Lib.hid (inB_no (lo := lo) (fun h => h2 h.2))
      go_enter Try.func70, Try.ntmps70
      go_wp2
      go_ret
      exact ⟨ret_bool H.out, rfl⟩
  · have H := Lib.hid (inB_no (hi := hi) (fun h => h1 h.1))
    go_enter Try.func70, Try.ntmps70
    go_wp2
    go_ret
    exact ⟨ret_bool H.out, rfl⟩

/-- The quotient, rounded down, as both programs reckon it. -/
def flo (a b : Int) : Int := if a.tmod b < 0 then a.tdiv b - 1 else a.tdiv b

theorem tdiv_bd {a b : Int} (hb : 1 ≤ b) (M : Int) (h1 : -M ≤ a) (h2 : a ≤ M) : -M ≤ a.tdiv b ∧ a.tdiv b ≤ M := by
  have h : (a.tdiv b).natAbs = a.natAbs / b.natAbs := Int.natAbs_tdiv a b
  have h3 : a.natAbs / b.natAbs ≤ a.natAbs := Nat.div_le_self _ _
  rw [← h] at h3
  omega

theorem floor_any (a b : Int) (w : World) (hb : 1 ≤ b) (h1 : -4000000000000000000 ≤ a) (h2 : a ≤ 4000000000000000000) : Calls Try.prog 109 #[.int .i64 a, .int .i64 b] w fun e w' => e = .returned (.int .i64 (flo a b)) ∧ w = w' := by
  obtain ⟨g1, g2⟩ := tdiv_bd hb 4000000000000000000 h1 h2
  by_cases hm : a.tmod b < 0
  · have H := Lib.hid (show flo a b = a.tdiv b - 1 from if_pos hm)
    go_enter Try.func109, Try.ntmps109
    go_wp2
    go_ret
    exact ⟨ret_int H.out, rfl⟩
  · have H := Lib.hid (show flo a b = a.tdiv b from if_neg hm)
    go_enter Try.func109, Try.ntmps109
    go_wp2
    go_ret
    exact ⟨ret_int H.out, rfl⟩

/-- What both FloorDivs answer: the quotient and the code. -/
def fdQ (a b : Int) : Int := if 1 ≤ b ∧ b ≤ 1000000000000000000 ∧ -1000000000000000000 ≤ a ∧ a ≤ 1000000000000000000 then flo a b else 0
def fdC (a b : Int) : Int := if 1 ≤ b ∧ b ≤ 1000000000000000000 ∧ -1000000000000000000 ≤ a ∧ a ≤ 1000000000000000000 then 0 else 2

end Go.Proofs.Ytookaodccmlkoaa.Num

/- Words on worlds, of no program: what a call leaves of the memory that was there. -/
namespace Go.Proofs.Ytookaodccmlkoaa.Kit
open Go.ChangeShapes Go.WideShapes Go.ChangeAt Go.RowKit

/-- The world w' is w with new blocks: nothing that was there is written. -/
def Ext (w w' : World) : Prop := Below w.heap.size w w'
theorem Ext.refl (w : World) : Ext w w := Below.refl _ _
theorem Ext.below {w w' : World} (h : Ext w w') : Below w.heap.size w w' := h
theorem Ext.size {w w' : World} (h : Ext w w') : w.heap.size ≤ w'.heap.size := Below.size h
theorem Ext.trans {a b c : World} (h : Ext a b) (k : Ext b c) : Ext a c := Below.trans h (Below.mono k h.size)
theorem Ext.alloc {a b : World} (h : Ext a b) (o : Obj) : Ext a (b.alloc o) := Below.alloc h h.size o
theorem Ext.drew {a b : World} (h : Ext a b) : Ext a b.drew := Below.drew h
theorem Ext.drewN {a b : World} (h : Ext a b) (n : Nat) : Ext a (b.drewN n) := below_drewN h n
theorem Ext.setNew {a b : World} (h : Ext a b) {p : Addr} (hp : a.heap.size ≤ p.block) (u : Value) : Ext a (b.setCell p u) := Below.setCell h hp u
/-- A cell that is there holds what it held. -/
theorem Ext.cellOf {w w' : World} (h : Ext w w') {a : Addr} {v : Value} (hc : w.cell? a = some v) : w'.cell? a = some v := by
  rw [Below.cell h (World.block_lt_of_cell? w _ hc)]; exact hc
theorem Ext.thawOf {w w' : World} (h : Ext w w') {a : Addr} {v : Value} (hc : w.cell? a = some v) (hf : w.frozen? a = false) : w'.frozen? a = false := by
  rw [Below.frozen h (World.block_lt_of_cell? w _ hc)]; exact hf
theorem boxed {w : World} {cs : Array Value} {t : TypeId} (i : Nat) {v : Value} (h : cs[i]? = some v) {n : Nat} (hn : w.heap.size = n) : (w.alloc (.cells cs t)).cell? ⟨n, i, none⟩ = some v := by
  rw [World.cell?_alloc_at cs t n i hn.symm]; exact h
theorem thawed {w : World} {cs : Array Value} {t : TypeId} (i : Nat) {n : Nat} (hn : w.heap.size = n) : (w.alloc (.cells cs t)).frozen? ⟨n, i, none⟩ = false := by
  subst hn; unfold World.frozen?; rw [show (w.alloc (.cells cs t)).heap[w.heap.size]? = _ from heap_alloc_new w _]; simp
theorem Ext.facts {W w1 : World} (hb : Ext W w1) : (∀ b o, b < W.heap.size → w1.cell? ⟨b, o, none⟩ = W.cell? ⟨b, o, none⟩) ∧ (∀ b o, b < W.heap.size → w1.frozen? ⟨b, o, none⟩ = W.frozen? ⟨b, o, none⟩) :=
  ⟨fun b o h => Below.cell hb (p := ⟨b, o, none⟩) h, fun b o h => Below.frozen hb (p := ⟨b, o, none⟩) h⟩

theorem boxes2 (w : World) (t : TypeId) (x y u v : Int) :
    (((w.alloc (.cells #[.int .i64 x, .int .i64 y] t)).alloc (.cells #[.int .i64 u, .int .i64 v] t)).cell? ⟨w.heap.size, 0, none⟩ = some (.int .i64 x)) ∧
    (((w.alloc (.cells #[.int .i64 x, .int .i64 y] t)).alloc (.cells #[.int .i64 u, .int .i64 v] t)).cell? ⟨w.heap.size, 1, none⟩ = some (.int .i64 y)) ∧
    (((w.alloc (.cells #[.int .i64 x, .int .i64 y] t)).alloc (.cells #[.int .i64 u, .int .i64 v] t)).cell? ⟨w.heap.size + 1, 0, none⟩ = some (.int .i64 u)) ∧
    (((w.alloc (.cells #[.int .i64 x, .int .i64 y] t)).alloc (.cells #[.int .i64 u, .int .i64 v] t)).cell? ⟨w.heap.size + 1, 1, none⟩ = some (.int .i64 v)) :=
  ⟨((Ext.refl _).alloc _).cellOf (boxed 0 rfl rfl), ((Ext.refl _).alloc _).cellOf (boxed 1 rfl rfl), boxed 0 rfl (by simp), boxed 1 rfl (by simp)⟩
theorem boxes3 (w : World) (t : TypeId) (x y u v a b : Int) :
    ((((w.alloc (.cells #[.int .i64 x, .int .i64 y] t)).alloc (.cells #[.int .i64 u, .int .i64 v] t)).alloc (.cells #[.int .i64 a, .int .i64 b] t)).cell? ⟨w.heap.size, 0, none⟩ = some (.int .i64 x)) ∧
    ((((w.alloc (.cells #[.int .i64 x, .int .i64 y] t)).alloc (.cells #[.int .i64 u, .int .i64 v] t)).alloc (.cells #[.int .i64 a, .int .i64 b] t)).cell? ⟨w.heap.size, 1, none⟩ = some (.int .i64 y)) ∧
    ((((w.alloc (.cells #[.int .i64 x, .int .i64 y] t)).alloc (.cells #[.int .i64 u, .int .i64 v] t)).alloc (.cells #[.int .i64 a, .int .i64 b] t)).cell? ⟨w.heap.size + 1, 0, none⟩ = some (.int .i64 u)) ∧
    ((((w.alloc (.cells #[.int .i64 x, .int .i64 y] t)).alloc (.cells #[.int .i64 u, .int .i64 v] t)).alloc (.cells #[.int .i64 a, .int .i64 b] t)).cell? ⟨w.heap.size + 1, 1, none⟩ = some (.int .i64 v)) ∧
    ((((w.alloc (.cells #[.int .i64 x, .int .i64 y] t)).alloc (.cells #[.int .i64 u, .int .i64 v] t)).alloc (.cells #[.int .i64 a, .int .i64 b] t)).cell? ⟨w.heap.size + 1 + 1, 0, none⟩ = some (.int .i64 a)) ∧
    ((((w.alloc (.cells #[.int .i64 x, .int .i64 y] t)).alloc (.cells #[.int .i64 u, .int .i64 v] t)).alloc (.cells #[.int .i64 a, .int .i64 b] t)).cell? ⟨w.heap.size + 1 + 1, 1, none⟩ = some (.int .i64 b)) :=
  ⟨(((Ext.refl _).alloc _).alloc _).cellOf (boxed 0 rfl rfl), (((Ext.refl _).alloc _).alloc _).cellOf (boxed 1 rfl rfl), ((Ext.refl _).alloc _).cellOf (boxed 0 rfl (by simp)), ((Ext.refl _).alloc _).cellOf (boxed 1 rfl (by simp)), boxed 0 rfl (by simp), boxed 1 rfl (by simp)⟩

/-- Nothing that was there is written but block B. -/
structure Chg (B : Nat) (w w' : World) : Prop where
  os : w'.os = w.os
  tape : w'.tape = w.tape
  output : w'.output = w.output
  size : w.heap.size ≤ w'.heap.size
  block : ∀ k, k < w.heap.size → k ≠ B → w'.heap[k]? = w.heap[k]?

theorem Chg.refl (B : Nat) (w : World) : Chg B w w := ⟨rfl, rfl, rfl, Nat.le_refl _, fun _ _ _ => rfl⟩
theorem Chg.trans {B : Nat} {a b c : World} (h : Chg B a b) (k : Chg B b c) : Chg B a c :=
  ⟨k.os.trans h.os, k.tape.trans h.tape, k.output.trans h.output, Nat.le_trans h.size k.size, fun i hi hB => (k.block i (Nat.lt_of_lt_of_le hi h.size) hB).trans (h.block i hi hB)⟩
theorem Chg.of_ext {B : Nat} {a b : World} (h : Ext a b) : Chg B a b := ⟨Below.os h, Below.tape h, Below.output h, Below.size h, fun i hi _ => Below.block h i hi⟩
theorem Chg.alloc {B : Nat} {a b : World} (h : Chg B a b) (o : Obj) : Chg B a (b.alloc o) := h.trans (Chg.of_ext ((Ext.refl b).alloc o))
theorem Chg.drew {B : Nat} {a b : World} (h : Chg B a b) : Chg B a b.drew := h.trans (Chg.of_ext ((Ext.refl b).drew))
theorem Chg.drewN {B : Nat} {a b : World} (h : Chg B a b) (n : Nat) : Chg B a (b.drewN n) := h.trans (Chg.of_ext ((Ext.refl b).drewN n))
theorem Chg.setCell {B : Nat} {a b : World} (h : Chg B a b) (o : Nat) (v : Value) : Chg B a (b.setCell ⟨B, o, none⟩ v) :=
  h.trans ⟨rfl, rfl, rfl, by simp [World.setCell], fun k _ hk => Below.heap_setCell _ _ _ _ hk⟩
/-- A store into a block that is new since a. -/
theorem Chg.setNew {B : Nat} {a b : World} (h : Chg B a b) {p : Addr} (hp : a.heap.size ≤ p.block) (v : Value) : Chg B a (b.setCell p v) :=
  ⟨h.os, h.tape, h.output, Nat.le_trans h.size (by simp [World.setCell]), fun k hk hB => (Below.heap_setCell b p v k (by omega)).trans (h.block k hk hB)⟩
theorem Chg.cellOf {B : Nat} {w w' : World} (h : Chg B w w') {a : Addr} {v : Value} (hB : a.block ≠ B) (hc : w.cell? a = some v) : w'.cell? a = some v := by
  rw [World.cell?_of_block (w := w) (h.block a.block (World.block_lt_of_cell? w _ hc) hB)]; exact hc
theorem Chg.frozenOf {B : Nat} {w w' : World} (h : Chg B w w') {a : Addr} (hB : a.block ≠ B) (hl : a.block < w.heap.size) : w'.frozen? a = w.frozen? a :=
  World.frozen?_of_block (w := w) (h.block a.block hl hB)
theorem Chg.thawOf {B : Nat} {w w' : World} (h : Chg B w w') {a : Addr} {v : Value} (hB : a.block ≠ B) (hc : w.cell? a = some v) (hf : w.frozen? a = false) : w'.frozen? a = false := by
  rw [h.frozenOf hB (World.block_lt_of_cell? w _ hc)]; exact hf
theorem Chg.facts {B : Nat} {w w' : World} (h : Chg B w w') : (∀ b o, b < w.heap.size → b ≠ B → w'.cell? ⟨b, o, none⟩ = w.cell? ⟨b, o, none⟩) ∧ (∀ b o, b < w.heap.size → b ≠ B → w'.frozen? ⟨b, o, none⟩ = w.frozen? ⟨b, o, none⟩) :=
  ⟨fun b _ h1 h2 => World.cell?_of_block (w := w) (h.block b h1 h2), fun b _ h1 h2 => World.frozen?_of_block (w := w) (h.block b h1 h2)⟩
/-- What writes no block but a new one writes nothing that was there. -/
theorem Chg.ext {B : Nat} {a b c : World} (h : Chg B b c) (k : Ext a b) (hB : a.heap.size ≤ B) : Ext a c :=
  ⟨h.os.trans (Below.os k), h.tape.trans (Below.tape k), h.output.trans (Below.output k), Nat.le_trans (Ext.size k) h.size, fun i hi => (h.block i (Nat.lt_of_lt_of_le hi (Ext.size k)) (by omega)).trans (Below.block k i hi)⟩

/-- What is told of a slice of integers that came in: nil, or a row of 'cap' cells, the numbers zs. -/
def IsRow (k : IntKind) (w : World) (a : Option Addr) (len cap : Nat) (zs : List Int) : Prop :=
  (a = none ∧ len = 0 ∧ cap = 0 ∧ zs = []) ∨
  ∃ x, a = some x ∧ len ≤ cap ∧ cap ≤ maxLen ∧ zs.length = cap ∧ (∀ i, i < zs.length → w.cell? (x.add i) = some (.int k (zs.getD i 0))) ∧ ∀ n ∈ zs, (Lit.int k n).wf = true

/-- A slice of bytes of a length that reads as letters. -/
def Bytes (w : World) (a : Option Addr) (len : Nat) : Prop :=
  len = 0 ∨ ∃ b off, a = some ⟨b, off, none⟩ ∧ ∀ i, i < len → ∃ z : Int, 0 ≤ z ∧ z ≤ 255 ∧ w.cell? ⟨b, off + i, none⟩ = some (.int .u8 z)

theorem Bytes.ext {w w' : World} {a : Option Addr} {len : Nat} (h : Bytes w a len) (k : Ext w w') : Bytes w' a len := by
  rcases h with h | ⟨b, off, ha, h⟩
  · exact .inl h
  · exact .inr ⟨b, off, ha, fun i hi => by obtain ⟨z, z0, z1, hz⟩ := h i hi; exact ⟨z, z0, z1, k.cellOf hz⟩⟩

theorem IsRow.bytes {w : World} {a : Option Addr} {len cap : Nat} {zs : List Int} (h : IsRow .u8 w a len cap zs) : Bytes w a len := by
  rcases h with ⟨_, h, _⟩ | ⟨x, rfl, hl, hm, hz, hc, hw⟩
  · exact .inl h
  · rcases Nat.eq_zero_or_pos len with h0 | h0
    · exact .inl h0
    · obtain ⟨b, off, rfl, hc'⟩ := ints_at hc (show 0 < zs.length by omega)
      refine .inr ⟨b, off, rfl, fun i hi => ⟨zs.getD i 0, ?_, ?_, hc' i (by omega)⟩⟩
      all_goals
        have hm : zs.getD i 0 ∈ zs := by
          have hi2 : i < zs.length := by omega
          have e : zs.getD i 0 = zs[i] := by simp [hi2]
          rw [e]; exact List.getElem_mem hi2
        have h8 : 0 ≤ zs.getD i 0 ∧ zs.getD i 0 ≤ 255 := by simpa [Lit.wf, IntKind.min, IntKind.max, IntKind.signed, IntKind.bits] using hw _ hm
        omega

end Go.Proofs.Ytookaodccmlkoaa.Kit

/- Contracts of the functions on points of chapter 1 (impl and spec): what each call returns, as a plain Lean function; nothing that was there is written. -/
namespace Go.Proofs.Ytookaodccmlkoaa.Pts
open Go.ChangeShapes Go.WideShapes Go.ChangeAt Go.RowKit
open Go.Proofs.Ytookaodccmlkoaa.Num Go.Proofs.Ytookaodccmlkoaa.Kit
set_option linter.unusedVariables false

abbrev Pt (x y : Int) : Value := .agg #[.int .i64 x, .int .i64 y]

/-- Is a coordinate valid? -/
def coB (n : Int) : Bool := inB n (-1000000) 1000000
/-- Is a point valid? -/
def ptB (x y : Int) : Bool := coB x && coB y
theorem ptB_yes {x y : Int} (h : ptB x y = true) : (-1000000 ≤ x ∧ x ≤ 1000000) ∧ -1000000 ≤ y ∧ y ≤ 1000000 := by
  unfold ptB coB at h; rw [Bool.and_eq_true] at h; exact ⟨of_inB h.1, of_inB h.2⟩

theorem isCoord_any (n : Int) (w : World) : Calls Try.prog 83 #[.int .i64 n] w fun e w' => e = .returned (.bool (coB n)) ∧ w = w' := by
  by_cases h1 : -1000000 ≤ n
  · by_cases h2 : n ≤ 1000000
    · have H := Lib.hid (show coB n = true from inB_yes h1 h2)
      go_enter Try.func83, Try.ntmps83
      go_wp2
      go_ret
      exact ⟨ret_bool H.out, rfl⟩
    · have H := Lib.hid (show coB n = false from inB_no (fun h => h2 h.2))
      go_enter Try.func83, Try.ntmps83
      go_wp2
      go_ret
      exact ⟨ret_bool H.out, rfl⟩
  · have H := Lib.hid (show coB n = false from inB_no (fun h => h1 h.1))
    go_enter Try.func83, Try.ntmps83
    go_wp2
    go_ret
    exact ⟨ret_bool H.out, rfl⟩

theorem isValid_any (x y : Int) (w : World) : Calls Try.prog 44 #[Pt x y] w fun e w' => e = .returned (.bool (ptB x y)) ∧ Ext w w' := by
  cases hx : coB x
  · have H := Lib.hid (show ptB x y = false by unfold ptB; rw [hx]; rfl)
    go_enter Try.func44, Try.ntmps44
    go_wp2_with (go_at_call 83; refine (isCoord_any _ _).mono ?_; rintro e w' ⟨rfl, rfl⟩)
    go_ret
    exact ⟨ret_bool H.out, (by repeat (first | exact Ext.refl _ | assumption | apply Ext.alloc | apply Ext.drew | (refine Ext.trans ?_ (by assumption)) | (refine Ext.setNew ?_ (by simp <;> omega) _)))⟩
  · have H := Lib.hid (show ptB x y = coB y by unfold ptB; rw [hx]; rfl)
    go_enter Try.func44, Try.ntmps44
    go_wp2_with (go_at_call 83; refine (isCoord_any _ _).mono ?_; rintro e w' ⟨rfl, rfl⟩)
    go_ret
    exact ⟨ret_bool H.out, (by repeat (first | exact Ext.refl _ | assumption | apply Ext.alloc | apply Ext.drew | (refine Ext.trans ?_ (by assumption)) | (refine Ext.setNew ?_ (by simp <;> omega) _)))⟩
theorem isPoint_spec (x y : Int) (w : World) : Calls Try.prog 47 #[Pt x y] w fun e w' => e = .returned (.bool (ptB x y)) ∧ Ext w w' := by
  cases hx : inB x (-1000000) 1000000
  · have H := Lib.hid (show ptB x y = false by unfold ptB coB; rw [hx]; rfl)
    go_enter Try.func47, Try.ntmps47
    go_wp2_with (go_at_call 70; refine (in_any _ _ _ _).mono ?_; rintro e w' ⟨rfl, rfl⟩)
    go_ret
    exact ⟨ret_bool H.out, (by repeat (first | exact Ext.refl _ | assumption | apply Ext.alloc | apply Ext.drew | (refine Ext.trans ?_ (by assumption)) | (refine Ext.setNew ?_ (by simp <;> omega) _)))⟩
  · have H := Lib.hid (show ptB x y = inB y (-1000000) 1000000 by unfold ptB coB; rw [hx]; rfl)
    go_enter Try.func47, Try.ntmps47
    go_wp2_with (go_at_call 70; refine (in_any _ _ _ _).mono ?_; rintro e w' ⟨rfl, rfl⟩)
    go_ret
    exact ⟨ret_bool H.out, (by repeat (first | exact Ext.refl _ | assumption | apply Ext.alloc | apply Ext.drew | (refine Ext.trans ?_ (by assumption)) | (refine Ext.setNew ?_ (by simp <;> omega) _)))⟩

/-- The two coordinates of a vector between valid points. -/
theorem vectorTo_any (x y u v : Int) (w : World) (hx : -1000000 ≤ x ∧ x ≤ 1000000) (hy : -1000000 ≤ y ∧ y ≤ 1000000) (hu : -1000000 ≤ u ∧ u ≤ 1000000) (hv : -1000000 ≤ v ∧ v ≤ 1000000) :
    Calls Try.prog 90 #[Pt x y, Pt u v] w fun e w' => e = .returned (Pt (u - x) (v - y)) ∧ Ext w w' := by
  go_enter Try.func90, Try.ntmps90
  go_wp2
  exact bodyPost_ret (v := Pt (u - x) (v - y)) (by simp [results, Try.results90, go_sem]) rfl ⟨rfl, (by repeat (first | exact Ext.refl _ | assumption | apply Ext.alloc | apply Ext.drew | (refine Ext.trans ?_ (by assumption)) | (refine Ext.setNew ?_ (by simp <;> omega) _)))⟩


theorem mul_bd {x y : Int} (A B : Int) (hx : -A ≤ x ∧ x ≤ A) (hy : -B ≤ y ∧ y ≤ B) : -(A * B) ≤ x * y ∧ x * y ≤ A * B := by
  have hA : 0 ≤ A := by omega
  have hB : 0 ≤ B := by omega
  have h : (x * y).natAbs ≤ A.natAbs * B.natAbs := by
    rw [Int.natAbs_mul]; exact Nat.mul_le_mul (by omega) (by omega)
  have h2 : ((A.natAbs * B.natAbs : Nat) : Int) = A * B := by
    rw [Int.natCast_mul, Int.natAbs_of_nonneg hA, Int.natAbs_of_nonneg hB]
  omega

theorem dotI_any (x y u v : Int) (w : World) (hx : -2000000 ≤ x ∧ x ≤ 2000000) (hy : -2000000 ≤ y ∧ y ≤ 2000000) (hu : -2000000 ≤ u ∧ u ≤ 2000000) (hv : -2000000 ≤ v ∧ v ≤ 2000000) :
    Calls Try.prog 111 #[Pt x y, Pt u v] w fun e w' => e = .returned (.int .i64 (x * u + y * v)) ∧ Ext w w' := by
  obtain ⟨a1, a2⟩ := mul_bd 2000000 2000000 hx hu
  obtain ⟨b1, b2⟩ := mul_bd 2000000 2000000 hy hv
  simp only [Int.reduceMul, Int.reduceNeg] at a1 a2 b1 b2
  go_enter Try.func111, Try.ntmps111
  go_wp2
  go_ret
  exact ⟨rfl, (by repeat (first | exact Ext.refl _ | assumption | apply Ext.alloc | apply Ext.drew | (refine Ext.trans ?_ (by assumption)) | (refine Ext.setNew ?_ (by simp <;> omega) _)))⟩

theorem squareLength_any (x y : Int) (w : World) (hx : -2000000 ≤ x ∧ x ≤ 2000000) (hy : -2000000 ≤ y ∧ y ≤ 2000000) :
    Calls Try.prog 110 #[Pt x y] w fun e w' => e = .returned (.int .i64 (x * x + y * y)) ∧ Ext w w' := by
  go_enter Try.func110, Try.ntmps110
  go_wp2_with (go_at_call 111; refine (dotI_any _ _ _ _ _ (by omega) (by omega) (by omega) (by omega)).mono ?_; rintro e w1 ⟨rfl, hx⟩)
  go_ret
  exact ⟨rfl, (by repeat (first | exact Ext.refl _ | assumption | apply Ext.alloc | apply Ext.drew | (refine Ext.trans ?_ (by assumption)) | (refine Ext.setNew ?_ (by simp <;> omega) _)))⟩

theorem cross_any (x y u v : Int) (w : World) (hx : -2000000 ≤ x ∧ x ≤ 2000000) (hy : -2000000 ≤ y ∧ y ≤ 2000000) (hu : -2000000 ≤ u ∧ u ≤ 2000000) (hv : -2000000 ≤ v ∧ v ≤ 2000000) :
    Calls Try.prog 89 #[Pt x y, Pt u v] w fun e w' => e = .returned (.int .i64 (x * v - y * u)) ∧ Ext w w' := by
  obtain ⟨a1, a2⟩ := mul_bd 2000000 2000000 hx hv
  obtain ⟨b1, b2⟩ := mul_bd 2000000 2000000 hy hu
  simp only [Int.reduceMul, Int.reduceNeg] at a1 a2 b1 b2
  go_enter Try.func89, Try.ntmps89
  go_wp2
  go_ret
  exact ⟨rfl, (by repeat (first | exact Ext.refl _ | assumption | apply Ext.alloc | apply Ext.drew | (refine Ext.trans ?_ (by assumption)) | (refine Ext.setNew ?_ (by simp <;> omega) _)))⟩

/-- The sign of a number. -/
def sgn (n : Int) : Int := if n < 0 then -1 else if 0 < n then 1 else 0

theorem signOf_any (n : Int) (w : World) : Calls Try.prog 49 #[.int .i64 n] w fun e w' => e = .returned (.int .i64 (sgn n)) ∧ w = w' := by
  by_cases h1 : n < 0
  · have H := Lib.hid (show sgn n = -1 by unfold sgn; rw [if_pos h1])
    go_enter Try.func49, Try.ntmps49
    go_wp2
    go_ret
    exact ⟨ret_int H.out, rfl⟩
  · by_cases h2 : 0 < n
    · have H := Lib.hid (show sgn n = 1 by unfold sgn; rw [if_neg h1, if_pos h2])
      go_enter Try.func49, Try.ntmps49
      go_wp2
      go_ret
      exact ⟨ret_int H.out, rfl⟩
    · have H := Lib.hid (show sgn n = 0 by unfold sgn; rw [if_neg h1, if_neg h2])
      go_enter Try.func49, Try.ntmps49
      go_wp2
      go_ret
      exact ⟨ret_int H.out, rfl⟩

/-- The square of the distance of two points. -/
def sqD (x y u v : Int) : Int := (u - x) * (u - x) + (v - y) * (v - y)
def sdQ (x y u v : Int) : Int := if ptB x y = true ∧ ptB u v = true then sqD x y u v else 0
def sdC (x y u v : Int) : Int := if ptB x y = true ∧ ptB u v = true then 0 else 1

/-- On which side of the line from (x, y) to (u, v) the point (a, b) is. -/
def trn (x y u v a b : Int) : Int := sgn ((u - x) * (b - y) - (v - y) * (a - x))
def tuQ (x y u v a b : Int) : Int := if ptB x y = true ∧ ptB u v = true ∧ ptB a b = true then trn x y u v a b else 0
def tuC (x y u v a b : Int) : Int := if ptB x y = true ∧ ptB u v = true ∧ ptB a b = true then 0 else 1

/-! ### spec -/
theorem minus_any (x y u v : Int) (w : World) (hx : -1000000 ≤ x ∧ x ≤ 1000000) (hy : -1000000 ≤ y ∧ y ≤ 1000000) (hu : -1000000 ≤ u ∧ u ≤ 1000000) (hv : -1000000 ≤ v ∧ v ≤ 1000000) :
    Calls Try.prog 119 #[Pt x y, Pt u v] w fun e w' => e = .returned (Pt (x - u) (y - v)) ∧ Ext w w' := by
  go_enter Try.func119, Try.ntmps119
  go_wp2
  exact bodyPost_ret (v := Pt (x - u) (y - v)) (by simp [results, Try.results119, go_sem]) rfl ⟨rfl, (by repeat (first | exact Ext.refl _ | assumption | apply Ext.alloc | apply Ext.drew | (refine Ext.trans ?_ (by assumption)) | (refine Ext.setNew ?_ (by simp <;> omega) _)))⟩

theorem crossS_any (x y u v : Int) (w : World) (hx : -2000000 ≤ x ∧ x ≤ 2000000) (hy : -2000000 ≤ y ∧ y ≤ 2000000) (hu : -2000000 ≤ u ∧ u ≤ 2000000) (hv : -2000000 ≤ v ∧ v ≤ 2000000) :
    Calls Try.prog 118 #[Pt x y, Pt u v] w fun e w' => e = .returned (.int .i64 (x * v - y * u)) ∧ Ext w w' := by
  obtain ⟨a1, a2⟩ := mul_bd 2000000 2000000 hx hv
  obtain ⟨b1, b2⟩ := mul_bd 2000000 2000000 hy hu
  simp only [Int.reduceMul, Int.reduceNeg] at a1 a2 b1 b2
  go_enter Try.func118, Try.ntmps118
  go_wp2
  go_ret
  exact ⟨rfl, (by repeat (first | exact Ext.refl _ | assumption | apply Ext.alloc | apply Ext.drew | (refine Ext.trans ?_ (by assumption)) | (refine Ext.setNew ?_ (by simp <;> omega) _)))⟩

theorem sign_any (n : Int) (w : World) : Calls Try.prog 42 #[.int .i64 n] w fun e w' => e = .returned (.int .i64 (sgn n)) ∧ w = w' := by
  by_cases h1 : n < 0
  · have H := Lib.hid (show sgn n = -1 by unfold sgn; rw [if_pos h1])
    go_enter Try.func42, Try.ntmps42
    go_wp2
    go_ret
    exact ⟨ret_int H.out, rfl⟩
  · by_cases h2 : 0 < n
    · have H := Lib.hid (show sgn n = 1 by unfold sgn; rw [if_neg h1, if_pos h2])
      go_enter Try.func42, Try.ntmps42
      go_wp2
      go_ret
      exact ⟨ret_int H.out, rfl⟩
    · have H := Lib.hid (show sgn n = 0 by unfold sgn; rw [if_neg h1, if_neg h2])
      go_enter Try.func42, Try.ntmps42
      go_wp2
      go_ret
      exact ⟨ret_int H.out, rfl⟩

theorem sqD_eq (x y u v : Int) : sqD x y u v = (x - u) * (x - u) + (y - v) * (y - v) := by
  have h : ∀ a b : Int, (a - b) * (a - b) = (b - a) * (b - a) := fun a b => by rw [← Int.neg_sub b a, Int.neg_mul_neg]
  unfold sqD; rw [h u x, h v y]

theorem turn_any (x y u v a b : Int) (w : World) (hx : -1000000 ≤ x ∧ x ≤ 1000000) (hy : -1000000 ≤ y ∧ y ≤ 1000000) (hu : -1000000 ≤ u ∧ u ≤ 1000000) (hv : -1000000 ≤ v ∧ v ≤ 1000000) (ha : -1000000 ≤ a ∧ a ≤ 1000000) (hb : -1000000 ≤ b ∧ b ≤ 1000000) :
    Calls Try.prog 87 #[Pt x y, Pt u v, Pt a b] w fun e w' => e = .returned (.int .i64 (trn x y u v a b)) ∧ Ext w w' := by
  go_enter Try.func87, Try.ntmps87
  go_wp2_with fail
  obtain ⟨c1, c2, c3, c4, c5, c6⟩ := boxes3 w 25 x y u v a b
  go_region_held3 (fun w' => w'.cell? ⟨w.heap.size, 0, none⟩ = some (.int .i64 x) ∧ w'.cell? ⟨w.heap.size, 1, none⟩ = some (.int .i64 y) ∧ w'.cell? ⟨w.heap.size + 1, 0, none⟩ = some (.int .i64 u) ∧ w'.cell? ⟨w.heap.size + 1, 1, none⟩ = some (.int .i64 v) ∧ w'.cell? ⟨w.heap.size + 1 + 1, 0, none⟩ = some (.int .i64 a) ∧ w'.cell? ⟨w.heap.size + 1 + 1, 1, none⟩ = some (.int .i64 b))
    (first | exact ⟨c1, c2, c3, c4, c5, c6⟩ | (go_split_ands; refine ⟨?_, ?_, ?_, ?_, ?_, ?_⟩ <;> first | assumption | exact Ext.cellOf hx (by assumption)))
    (first | (go_at_call 119; refine (minus_any _ _ _ _ _ (by omega) (by omega) (by omega) (by omega)).mono ?_; rintro e w1 ⟨rfl, hx⟩) | (go_at_call 118; refine (crossS_any _ _ _ _ _ (by omega) (by omega) (by omega) (by omega)).mono ?_; rintro e w1 ⟨rfl, hx⟩) | (go_at_call 42; refine (sign_any _ _).mono ?_; rintro e w1 ⟨rfl, rfl⟩))
  all_goals
    go_wp2
    go_ret
    exact ⟨ret_int rfl, (by repeat (first | exact Ext.refl _ | assumption | apply Ext.alloc | apply Ext.drew | (refine Ext.trans ?_ (by assumption)) | (refine Ext.setNew ?_ (by simp <;> omega) _)))⟩

/-! ### laws -/
end Go.Proofs.Ytookaodccmlkoaa.Pts

/- Words on blocks of cells, of no program: a box that may be written, and what is left of it behind a call or a store. -/
namespace Go.Proofs.Ytookaodccmlkoaa.Kit
open Go.ChangeShapes Go.WideShapes Go.ChangeAt Go.RowKit

/-- Block n holds the values vs, and may be written. -/
def Box (w : World) (n : Nat) (vs : List Value) : Prop := ∀ i v, vs[i]? = some v → w.cell? ⟨n, i, none⟩ = some v ∧ w.frozen? ⟨n, i, none⟩ = false

theorem Box.new {w : World} {vs : List Value} {t : TypeId} {n : Nat} (hn : w.heap.size = n) : Box (w.alloc (.cells vs.toArray t)) n vs :=
  fun i v h => ⟨boxed i (by simpa using h) hn, thawed i hn⟩
theorem Box.new2 {w : World} {x y : Value} {t : TypeId} {n : Nat} (hn : w.heap.size = n) : Box (w.alloc (.cells #[x, y] t)) n [x, y] := Box.new hn
theorem Box.new4 {w : World} {x y z u : Value} {t : TypeId} {n : Nat} (hn : w.heap.size = n) : Box (w.alloc (.cells #[x, y, z, u] t)) n [x, y, z, u] := Box.new hn
theorem Box.ext {w w' : World} {n : Nat} {vs : List Value} (h : Box w n vs) (k : Ext w w') : Box w' n vs :=
  fun i v hv => ⟨k.cellOf (h i v hv).1, k.thawOf (h i v hv).1 (h i v hv).2⟩
theorem Box.chg {w w' : World} {n B : Nat} {vs : List Value} (h : Box w n vs) (k : Chg B w w') (hB : n ≠ B) : Box w' n vs :=
  fun i v hv => ⟨k.cellOf hB (h i v hv).1, k.thawOf hB (h i v hv).1 (h i v hv).2⟩
theorem Box.alloc {w : World} {n : Nat} {vs : List Value} (h : Box w n vs) (o : Obj) : Box (w.alloc o) n vs := h.ext ((Ext.refl w).alloc o)
theorem Box.drew {w : World} {n : Nat} {vs : List Value} (h : Box w n vs) : Box w.drew n vs := h.ext (Ext.refl w).drew
theorem Box.drewN {w : World} {n : Nat} {vs : List Value} (h : Box w n vs) (k : Nat) : Box (w.drewN k) n vs := h.ext ((Ext.refl w).drewN k)
theorem Box.away {w : World} {n : Nat} {vs : List Value} (h : Box w n vs) {p : Addr} (hp : p.block ≠ n) (u : Value) : Box (w.setCell p u) n vs :=
  fun i v hv => ⟨by rw [World.cell?_setCell_other _ _ _ _ (fun he => hp (by rw [he]))]; exact (h i v hv).1, by rw [World.frozen?_setCell]; exact (h i v hv).2⟩
theorem Box.set {w : World} {n : Nat} {vs : List Value} (h : Box w n vs) (i : Nat) (hi : i < vs.length) (u : Value) : Box (w.setCell ⟨n, i, none⟩ u) n (vs.set i u) := by
  intro j v hv
  rw [List.getElem?_set] at hv
  by_cases hj : i = j
  · subst hj
    rw [if_pos rfl, if_pos hi] at hv
    cases hv
    exact ⟨World.cell?_setCell_same _ _ _ (h i _ (List.getElem?_eq_getElem hi)).1, by rw [World.frozen?_setCell]; exact (h i _ (List.getElem?_eq_getElem hi)).2⟩
  · rw [if_neg hj] at hv
    exact ⟨by rw [World.cell?_setCell_other _ _ _ _ (by simp)]; exact (h j v hv).1, by rw [World.frozen?_setCell]; exact (h j v hv).2⟩
theorem Box.set2 {w : World} {n : Nat} {x y u v : Value} (h : Box w n [x, y]) : Box ((w.setCell ⟨n, 0, none⟩ u).setCell ⟨n, 1, none⟩ v) n [u, v] := (h.set 0 (by simp) u).set 1 (by simp) v
theorem Box.set4 {w : World} {n : Nat} {x y z r a b c d : Value} (h : Box w n [x, y, z, r]) : Box ((((w.setCell ⟨n, 0, none⟩ a).setCell ⟨n, 1, none⟩ b).setCell ⟨n, 2, none⟩ c).setCell ⟨n, 3, none⟩ d) n [a, b, c, d] :=
  (((h.set 0 (by simp) a).set 1 (by simp) b).set 2 (by simp) c).set 3 (by simp) d
theorem Box.away2 {w : World} {n m i j : Nat} {vs : List Value} {u v : Value} (h : Box w n vs) (hm : m ≠ n) : Box ((w.setCell ⟨m, i, none⟩ u).setCell ⟨m, j, none⟩ v) n vs := (h.away hm u).away hm v
theorem Box.two {w : World} {n : Nat} {x y : Value} (h : Box w n [x, y]) : (w.cell? ⟨n, 0, none⟩ = some x ∧ w.cell? ⟨n, 1, none⟩ = some y) ∧ w.frozen? ⟨n, 0, none⟩ = false ∧ w.frozen? ⟨n, 1, none⟩ = false :=
  ⟨⟨(h 0 x rfl).1, (h 1 y rfl).1⟩, (h 0 x rfl).2, (h 1 y rfl).2⟩
theorem Box.four {w : World} {n : Nat} {x y z u : Value} (h : Box w n [x, y, z, u]) : (w.cell? ⟨n, 0, none⟩ = some x ∧ w.cell? ⟨n, 1, none⟩ = some y ∧ w.cell? ⟨n, 2, none⟩ = some z ∧ w.cell? ⟨n, 3, none⟩ = some u) ∧
    w.frozen? ⟨n, 0, none⟩ = false ∧ w.frozen? ⟨n, 1, none⟩ = false ∧ w.frozen? ⟨n, 2, none⟩ = false ∧ w.frozen? ⟨n, 3, none⟩ = false :=
  ⟨⟨(h 0 x rfl).1, (h 1 y rfl).1, (h 2 z rfl).1, (h 3 u rfl).1⟩, (h 0 x rfl).2, (h 1 y rfl).2, (h 2 z rfl).2, (h 3 u rfl).2⟩
theorem Box.lt {w : World} {n : Nat} {x : Value} {vs : List Value} (h : Box w n (x :: vs)) : n < w.heap.size := World.block_lt_of_cell? w _ (h 0 x rfl).1

theorem drew_size (w : World) : w.drew.heap.size = w.heap.size := rfl
/-- A pair of numbers that was made new ahead of a call. -/
theorem Ext.newBox {X w1 : World} {t : TypeId} {x y : Value} (h : Ext (X.alloc (.cells #[x, y] t)) w1) {m : Nat} (hm : m ≤ X.heap.size) : Box w1 X.heap.size [x, y] ∧ m ≤ X.heap.size := ⟨(Box.new2 rfl).ext h, hm⟩

end Go.Proofs.Ytookaodccmlkoaa.Kit

/- Rows of fixes in memory, and the contracts of the conversions and comparisons of tracks that the exact laws use. -/
namespace Go.Proofs.Ytookaodccmlkoaa.Trk
open Go.ChangeShapes Go.WideShapes Go.ChangeAt Go.RowKit
open Go.Proofs.Ytookaodccmlkoaa.Num Go.Proofs.Ytookaodccmlkoaa.Kit Go.Proofs.Ytookaodccmlkoaa.Pts
set_option linter.unusedVariables false
set_option linter.unusedSimpArgs false

/-- A fix: its time and its point. -/
structure F3 where
  t : Int
  x : Int
  y : Int
deriving DecidableEq

abbrev Fx (t x y : Int) : Value := .agg #[.int .i64 t, .int .i64 x, .int .i64 y]
abbrev Tr (s : Value) : Value := .agg #[s]

/-- The fix number i of a list. -/
def fx (fs : List F3) (i : Nat) : F3 := fs.getD i ⟨0, 0, 0⟩

/-- Three cells from an address on hold a fix. -/
def At (w : World) (b o : Nat) (f : F3) : Prop := w.cell? ⟨b, o, none⟩ = some (.int .i64 f.t) ∧ w.cell? ⟨b, o + 1, none⟩ = some (.int .i64 f.x) ∧ w.cell? ⟨b, o + 2, none⟩ = some (.int .i64 f.y)
theorem At.ext {w w' : World} {b o : Nat} {f : F3} (h : At w b o f) (k : Ext w w') : At w' b o f := ⟨k.cellOf h.1, k.cellOf h.2.1, k.cellOf h.2.2⟩

/-- A slice that reads as a list of fixes. -/
def Fxs (w : World) (a : Option Addr) (fs : List F3) : Prop :=
  fs.length ≤ maxLen ∧ (fs = [] ∨ ∃ b off, a = some ⟨b, off, none⟩ ∧ ∀ i, i < fs.length → At w b (off + i * 3) (fx fs i))
theorem Fxs.ext {w w' : World} {a : Option Addr} {fs : List F3} (h : Fxs w a fs) (k : Ext w w') : Fxs w' a fs := by
  refine ⟨h.1, ?_⟩
  rcases h.2 with h | ⟨b, off, ha, h⟩
  · exact .inl h
  · exact .inr ⟨b, off, ha, fun i hi => (h i hi).ext k⟩

/-- Block B holds the fixes of a list one behind the other, and may be written. -/
def Own (w : World) (B : Nat) (fs : List F3) : Prop := ∀ i, i < fs.length → At w B (i * 3) (fx fs i) ∧ w.frozen? ⟨B, i * 3, none⟩ = false ∧ w.frozen? ⟨B, i * 3 + 1, none⟩ = false ∧ w.frozen? ⟨B, i * 3 + 2, none⟩ = false

/-- What is left of a bound behind a slice's length. -/
def szL (m : Int) (len : Nat) : Int := if m - len < 0 then -1 else m - len
theorem szL_neg {m : Int} {len : Nat} (h : m - len < 0) : szL m len = -1 := if_pos h
theorem szL_pos {m : Int} {len : Nat} (h : ¬ m - len < 0) : szL m len = m - len := if_neg h

/-- Are two fixes equal? -/
def eqF (f g : F3) : Bool := (f.t == g.t) && ((f.x == g.x) && (f.y == g.y))

/-- What toFixS leaves: a new row of the same fixes. -/
def NewF (w : World) (fs : List F3) (e : Ending) (w' : World) : Prop := ∃ B, e = .returned (.slice (some ⟨B, 0, none⟩) fs.length fs.length) ∧ w.heap.size ≤ B ∧ Own w' B fs ∧ Ext w w'

/-- What its loop keeps: the block's cells are there and may be written; the first fixes are copied. -/
def RelT (w : World) (fs : List F3) (i : Value) (wr : World) : Prop :=
  ∃ k : Nat, i = .int .i64 k ∧ k ≤ fs.length ∧ (∀ j, j < fs.length * 3 → (∃ v, wr.cell? ⟨w.heap.size, j, none⟩ = some v) ∧ wr.frozen? ⟨w.heap.size, j, none⟩ = false) ∧ (∀ j, j < k → At wr w.heap.size (j * 3) (fx fs j)) ∧ Ext w wr

theorem RelT.step {w wr w2 : World} {fs : List F3} {k : Nat} (hk : k < fs.length) (hc : ∀ j, j < fs.length * 3 → (∃ v, wr.cell? ⟨w.heap.size, j, none⟩ = some v) ∧ wr.frozen? ⟨w.heap.size, j, none⟩ = false)
    (hd : ∀ j, j < k → At wr w.heap.size (j * 3) (fx fs j)) (hx : Ext w wr) (hy : Ext wr w2) :
    RelT w fs (.int .i64 (k + 1)) (((w2.setCell ⟨w.heap.size, k * 3, none⟩ (.int .i64 (fx fs k).t)).setCell ⟨w.heap.size, k * 3 + 1, none⟩ (.int .i64 (fx fs k).x)).setCell ⟨w.heap.size, k * 3 + 2, none⟩ (.int .i64 (fx fs k).y)) := by
  obtain ⟨⟨v0, d0⟩, f0⟩ := hc (k * 3) (by omega)
  obtain ⟨⟨v1, d1⟩, f1⟩ := hc (k * 3 + 1) (by omega)
  obtain ⟨⟨v2, d2⟩, f2⟩ := hc (k * 3 + 2) (by omega)
  have other : ∀ (W : World) (p q : Nat) (u : Value), p ≠ q → (W.setCell ⟨w.heap.size, p, none⟩ u).cell? ⟨w.heap.size, q, none⟩ = W.cell? ⟨w.heap.size, q, none⟩ := fun W p q u h => World.cell?_setCell_other _ _ _ _ (by simp <;> omega)
  refine ⟨k + 1, by go_num, by omega, fun j hj => ?_, fun j hj => ?_, ?_⟩
  · obtain ⟨⟨v, hv⟩, hf⟩ := hc j hj
    refine ⟨?_, by simp only [World.frozen?_setCell]; exact hy.thawOf hv hf⟩
    by_cases h2 : k * 3 + 2 = j
    · subst h2; exact ⟨_, World.cell?_setCell_same _ _ _ (by rw [other _ _ _ _ (by omega), other _ _ _ _ (by omega)]; exact hy.cellOf d2)⟩
    · rw [other _ _ _ _ h2]
      by_cases h1 : k * 3 + 1 = j
      · subst h1; exact ⟨_, World.cell?_setCell_same _ _ _ (by rw [other _ _ _ _ (by omega)]; exact hy.cellOf d1)⟩
      · rw [other _ _ _ _ h1]
        by_cases h0 : k * 3 = j
        · subst h0; exact ⟨_, World.cell?_setCell_same _ _ _ (hy.cellOf d0)⟩
        · rw [other _ _ _ _ h0]; exact ⟨_, hy.cellOf hv⟩
  · by_cases h : j = k
    · subst h
      refine ⟨?_, ?_, ?_⟩
      · rw [other _ _ _ _ (by omega), other _ _ _ _ (by omega)]; exact World.cell?_setCell_same _ _ _ (hy.cellOf d0)
      · rw [other _ _ _ _ (by omega)]; exact World.cell?_setCell_same _ _ _ (by rw [other _ _ _ _ (by omega)]; exact hy.cellOf d1)
      · exact World.cell?_setCell_same _ _ _ (by rw [other _ _ _ _ (by omega), other _ _ _ _ (by omega)]; exact hy.cellOf d2)
    · obtain ⟨g0, g1, g2⟩ := (hd j (by omega)).ext hy
      refine ⟨?_, ?_, ?_⟩
      all_goals
        rw [other _ _ _ _ (by omega), other _ _ _ _ (by omega), other _ _ _ _ (by omega)]; assumption
  · exact (((hx.trans hy).setNew (Nat.le_refl _) _).setNew (Nat.le_refl _) _).setNew (Nat.le_refl _) _

theorem fixInfo : (Try.prog.info? 44).map (fun i => (i.zero, i.size, i.bytes)) = some (some (Fx 0 0 0), 3, 24) := by kernel_rfl

theorem Ext.grown {w w' : World} (h : w.grownBy w' none) : Ext w w' := by
  obtain ⟨h1, h2, h3, h4, h5⟩ := h
  exact ⟨h1, h2, h3, h4, fun i hi => h5 i hi (by simp)⟩

theorem madeAt {w' : World} {e : TypeId} {n b g : Nat} {z : Value} (h : w'.ownsRow b e 3 (.slice (some ⟨g, 0, none⟩) n n) n (madeCells z.cells (n * 3)).toList) (j : Nat) (hj : j < n * 3) :
    (∃ v, w'.cell? ⟨g, j, none⟩ = some v) ∧ w'.frozen? ⟨g, j, none⟩ = false := by
  refine ⟨?_, h.frozenAt j⟩
  rw [h.cellAt j hj]
  exact ⟨_, List.getElem?_eq_getElem (by simpa [size_madeCells] using hj)⟩

/-- What toTrack leaves: a track with a new row of the same fixes. -/
def NewT (w : World) (fs : List F3) (e : Ending) (w' : World) : Prop := ∃ B, e = .returned (Tr (.slice (some ⟨B, 0, none⟩) fs.length fs.length)) ∧ w.heap.size ≤ B ∧ Own w' B fs ∧ Ext w w'

theorem Own.ext {w w' : World} {B : Nat} {fs : List F3} (h : Own w B fs) (k : Ext w w') : Own w' B fs :=
  fun i hi => ⟨(h i hi).1.ext k, k.thawOf (h i hi).1.1 (h i hi).2.1, k.thawOf (h i hi).1.2.1 (h i hi).2.2.1, k.thawOf (h i hi).1.2.2 (h i hi).2.2.2⟩
theorem Own.fxs {w : World} {B : Nat} {fs : List F3} (h : Own w B fs) (hl : fs.length ≤ maxLen) : Fxs w (some ⟨B, 0, none⟩) fs :=
  ⟨hl, .inr ⟨B, 0, rfl, fun i hi => by rw [Nat.zero_add]; exact (h i hi).1⟩⟩

theorem Own.away {w w' : World} {B n : Nat} {fs : List F3} (h : Own w B fs) (k : Chg n w w') (hn : B ≠ n) : Own w' B fs :=
  fun i hi => ⟨⟨k.cellOf hn (h i hi).1.1, k.cellOf hn (h i hi).1.2.1, k.cellOf hn (h i hi).1.2.2⟩, k.thawOf hn (h i hi).1.1 (h i hi).2.1, k.thawOf hn (h i hi).1.2.1 (h i hi).2.2.1, k.thawOf hn (h i hi).1.2.2 (h i hi).2.2.2⟩

/-- What eqFixS keeps. -/
def RelE (w : World) (n : Nat) (i : Value) (wr : World) : Prop := ∃ k : Nat, i = .int .i64 k ∧ k ≤ n ∧ Ext w wr

theorem eqF_refl (f : F3) : eqF ⟨f.t, f.x, f.y⟩ ⟨f.t, f.x, f.y⟩ = true := by simp [eqF]
end Go.Proofs.Ytookaodccmlkoaa.Trk

/- Words on a result's box that is written while a region draws its order, of no program. -/
namespace Go.Proofs.Ytookaodccmlkoaa.Kit
open Go.ChangeShapes Go.WideShapes Go.ChangeAt Go.RowKit

/-- The world w' is W with new blocks; block n, none of W's, has k cells that may be written. -/
def Res (W : World) (n k : Nat) (w' : World) : Prop := Ext W w' ∧ W.heap.size ≤ n ∧ ∀ i, i < k → ∃ v, w'.cell? ⟨n, i, none⟩ = some v ∧ w'.frozen? ⟨n, i, none⟩ = false
theorem Res.new {W : World} {vs : List Value} {t : TypeId} {n : Nat} (hn : W.heap.size = n) (k : Nat) (hk : vs.length = k) : Res W n k (W.alloc (.cells vs.toArray t)) :=
  ⟨(Ext.refl W).alloc _, by omega, fun i hi => ⟨vs[i]'(by omega), boxed i (by simp) hn, thawed i hn⟩⟩
theorem Res.new2 {W : World} {x y : Value} {t : TypeId} : Res W W.heap.size 2 (W.alloc (.cells #[x, y] t)) := Res.new rfl 2 rfl
theorem Res.new4 {W : World} {x y z u : Value} {t : TypeId} : Res W W.heap.size 4 (W.alloc (.cells #[x, y, z, u] t)) := Res.new rfl 4 rfl
theorem Res.ext {W : World} {n k : Nat} {a b : World} (h : Res W n k a) (x : Ext a b) : Res W n k b :=
  ⟨h.1.trans x, h.2.1, fun i hi => by obtain ⟨v, c, f⟩ := h.2.2 i hi; exact ⟨v, x.cellOf c, x.thawOf c f⟩⟩
theorem Res.drew {W : World} {n k : Nat} {a : World} (h : Res W n k a) : Res W n k a.drew := h.ext (Ext.refl a).drew
theorem Res.set {W : World} {n k : Nat} {a : World} (h : Res W n k a) (i : Nat) (u : Value) : Res W n k (a.setCell ⟨n, i, none⟩ u) := by
  refine ⟨h.1.setNew h.2.1 u, h.2.1, fun j hj => ?_⟩
  obtain ⟨v, c, f⟩ := h.2.2 j hj
  by_cases e : i = j
  · subst e; exact ⟨u, World.cell?_setCell_same _ _ _ c, by rw [World.frozen?_setCell]; exact f⟩
  · exact ⟨v, by rw [World.cell?_setCell_other _ _ _ _ (by simp <;> omega)]; exact c, by rw [World.frozen?_setCell]; exact f⟩
theorem Res.two {W : World} {n : Nat} {a : World} (h : Res W n 2 a) : ∃ x y, Box a n [x, y] := by
  obtain ⟨x, c0, f0⟩ := h.2.2 0 (by omega)
  obtain ⟨y, c1, f1⟩ := h.2.2 1 (by omega)
  refine ⟨x, y, fun i v hv => ?_⟩
  match i, hv with
  | 0, hv => simp at hv; subst hv; exact ⟨c0, f0⟩
  | 1, hv => simp at hv; subst hv; exact ⟨c1, f1⟩
theorem Res.four {W : World} {n : Nat} {a : World} (h : Res W n 4 a) : ∃ x y z u, Box a n [x, y, z, u] := by
  obtain ⟨x, c0, f0⟩ := h.2.2 0 (by omega)
  obtain ⟨y, c1, f1⟩ := h.2.2 1 (by omega)
  obtain ⟨z, c2, f2⟩ := h.2.2 2 (by omega)
  obtain ⟨u, c3, f3⟩ := h.2.2 3 (by omega)
  refine ⟨x, y, z, u, fun i v hv => ?_⟩
  match i, hv with
  | 0, hv => simp at hv; subst hv; exact ⟨c0, f0⟩
  | 1, hv => simp at hv; subst hv; exact ⟨c1, f1⟩
  | 2, hv => simp at hv; subst hv; exact ⟨c2, f2⟩
  | 3, hv => simp at hv; subst hv; exact ⟨c3, f3⟩

/-- So, and a box m beside it holds the values vs. -/
def ResB (W : World) (n k m : Nat) (vs : List Value) (w' : World) : Prop := Res W n k w' ∧ m ≠ n ∧ Box w' m vs
theorem ResB.ext {W : World} {n k m : Nat} {vs : List Value} {a b : World} (h : ResB W n k m vs a) (x : Ext a b) : ResB W n k m vs b := ⟨h.1.ext x, h.2.1, h.2.2.ext x⟩
theorem ResB.drew {W : World} {n k m : Nat} {vs : List Value} {a : World} (h : ResB W n k m vs a) : ResB W n k m vs a.drew := h.ext (Ext.refl a).drew
theorem ResB.set {W : World} {n k m : Nat} {vs : List Value} {a : World} (h : ResB W n k m vs a) (i : Nat) (u : Value) : ResB W n k m vs (a.setCell ⟨n, i, none⟩ u) :=
  ⟨h.1.set i u, h.2.1, h.2.2.away (by simpa using fun e => h.2.1 e.symm) u⟩

/-- The world w' is WL but for block n and new blocks; block n has k cells that may be written. -/
def ResC (WL : World) (n k : Nat) (w' : World) : Prop := Chg n WL w' ∧ ∀ i, i < k → ∃ v, w'.cell? ⟨n, i, none⟩ = some v ∧ w'.frozen? ⟨n, i, none⟩ = false
theorem ResC.of2 {WL : World} {n : Nat} {x y : Value} (h : Box WL n [x, y]) : ResC WL n 2 WL :=
  ⟨Chg.refl _ _, fun i hi => match i, hi with
    | 0, _ => ⟨x, h 0 x rfl⟩
    | 1, _ => ⟨y, h 1 y rfl⟩⟩
theorem ResC.ext {WL : World} {n k : Nat} {a b : World} (h : ResC WL n k a) (x : Ext a b) : ResC WL n k b :=
  ⟨h.1.trans (Chg.of_ext x), fun i hi => by obtain ⟨v, c, f⟩ := h.2 i hi; exact ⟨v, x.cellOf c, x.thawOf c f⟩⟩
theorem ResC.drew {WL : World} {n k : Nat} {a : World} (h : ResC WL n k a) : ResC WL n k a.drew := h.ext (Ext.refl a).drew
theorem ResC.set {WL : World} {n k : Nat} {a : World} (h : ResC WL n k a) (i : Nat) (u : Value) : ResC WL n k (a.setCell ⟨n, i, none⟩ u) := by
  refine ⟨h.1.setCell i u, fun j hj => ?_⟩
  obtain ⟨v, c, f⟩ := h.2 j hj
  by_cases e : i = j
  · subst e; exact ⟨u, World.cell?_setCell_same _ _ _ c, by rw [World.frozen?_setCell]; exact f⟩
  · exact ⟨v, by rw [World.cell?_setCell_other _ _ _ _ (by simp <;> omega)]; exact c, by rw [World.frozen?_setCell]; exact f⟩
theorem ResC.cell {WL : World} {n k : Nat} {a : World} (h : ResC WL n k a) {p : Addr} {v : Value} (hp : p.block ≠ n) (hc : WL.cell? p = some v) : a.cell? p = some v := h.1.cellOf hp hc
theorem ResC.to {w WL : World} {n k : Nat} {a : World} (h : ResC WL n k a) (x : Ext w WL) (hn : w.heap.size ≤ n) : Ext w a := h.1.ext x hn
theorem ResC.two {WL : World} {n : Nat} {a : World} (h : ResC WL n 2 a) : ∃ x y, Box a n [x, y] := by
  obtain ⟨x, c0, f0⟩ := h.2 0 (by omega)
  obtain ⟨y, c1, f1⟩ := h.2 1 (by omega)
  refine ⟨x, y, fun i v hv => ?_⟩
  match i, hv with
  | 0, hv => simp at hv; subst hv; exact ⟨c0, f0⟩
  | 1, hv => simp at hv; subst hv; exact ⟨c1, f1⟩
theorem Box.new3 {w : World} {x y z : Value} {t : TypeId} {n : Nat} (hn : w.heap.size = n) : Box (w.alloc (.cells #[x, y, z] t)) n [x, y, z] := Box.new hn

end Go.Proofs.Ytookaodccmlkoaa.Kit

/- Rows of fixes that a call makes itself and that grow. -/
namespace Go.Proofs.Ytookaodccmlkoaa.Trk
open Go.ChangeShapes Go.WideShapes Go.ChangeAt Go.RowKit
open Go.Proofs.Ytookaodccmlkoaa.Num Go.Proofs.Ytookaodccmlkoaa.Kit Go.Proofs.Ytookaodccmlkoaa.Pts
set_option linter.unusedVariables false
set_option linter.unusedSimpArgs false

def cellsF (fs : List F3) : List Value := fs.flatMap fun f => [.int .i64 f.t, .int .i64 f.x, .int .i64 f.y]
theorem cellsF_len : ∀ fs : List F3, (cellsF fs).length = fs.length * 3
  | [] => rfl
  | f :: fs => by
    have := cellsF_len fs
    simp only [cellsF, List.flatMap_cons, List.length_append, List.length_cons, List.length_nil] at this ⊢
    omega
theorem cellsF_app (fs : List F3) (f : F3) : cellsF fs ++ [.int .i64 f.t, .int .i64 f.x, .int .i64 f.y] = cellsF (fs ++ [f]) := by simp [cellsF]
theorem cellsF_app2 (fs gs : List F3) : cellsF fs ++ cellsF gs = cellsF (fs ++ gs) := by simp [cellsF]
theorem cellsF_get : ∀ (fs : List F3) (i : Nat), i < fs.length → (cellsF fs)[i * 3]? = some (.int .i64 (fx fs i).t) ∧ (cellsF fs)[i * 3 + 1]? = some (.int .i64 (fx fs i).x) ∧ (cellsF fs)[i * 3 + 2]? = some (.int .i64 (fx fs i).y)
  | [], i, h => absurd h (by simp)
  | f :: fs, 0, _ => by simp [cellsF, fx]
  | f :: fs, i + 1, h => by
    have := cellsF_get fs i (by simpa using h)
    have e : cellsF (f :: fs) = .int .i64 f.t :: .int .i64 f.x :: .int .i64 f.y :: cellsF fs := by simp [cellsF]
    rw [e, show (i + 1) * 3 = i * 3 + 3 by omega]
    simpa [fx] using this
theorem cellsF_one : ∀ (fs : List F3) (u : Value), u ∈ cellsF fs → u.oneCell' = true := by
  intro fs u hu
  simp only [cellsF, List.mem_flatMap] at hu
  obtain ⟨f, _, hu⟩ := hu
  simp at hu
  rcases hu with rfl | rfl | rfl <;> rfl

/-- A slice of fixes that the call made itself: nil, or a row in a block of its own from 'base' on, which may be written. -/
def OwnF (w : World) (base : Nat) (v : Value) (fs : List F3) : Prop := w.ownsRow base 44 3 v fs.length (cellsF fs)

theorem OwnF.fxs {w : World} {base : Nat} {v : Value} {fs : List F3} (h : OwnF w base v fs) : ∃ a cap, v = .slice a fs.length cap ∧ fs.length ≤ cap ∧ Fxs w a fs ∧ (fs = [] ∨ ∃ g, a = some ⟨g, 0, none⟩ ∧ base ≤ g ∧ Own w g fs) := by
  have h0 := h
  rcases h.2 with ⟨hv, hn⟩ | ⟨g, cap, cur, hv, hb, hg, hc, hm, hs, ht⟩
  · have e : fs = [] := List.length_eq_zero_iff.1 hn
    subst e
    exact ⟨none, 0, hv, Nat.le_refl _, ⟨by simp [maxLen], .inl rfl⟩, .inl rfl⟩
  · rw [hv] at h0
    have hO : Own w g fs := fun i hi => by
      obtain ⟨c0, c1, c2⟩ := cellsF_get fs i hi
      exact ⟨⟨by rw [h0.cellAt (i * 3) (by omega)]; exact c0, by rw [h0.cellAt (i * 3 + 1) (by omega)]; exact c1, by rw [h0.cellAt (i * 3 + 2) (by omega)]; exact c2⟩, h0.frozenAt _, h0.frozenAt _, h0.frozenAt _⟩
    exact ⟨some ⟨g, 0, none⟩, cap, hv, hc, hO.fxs (by omega), .inr ⟨g, rfl, hb, hO⟩⟩

theorem OwnF.nil (w : World) (base : Nat) : OwnF w base (.slice none 0 0) [] := World.ownsRow_nil w base _ 3
theorem OwnF.chg {w w' : World} {base B : Nat} {v : Value} {fs : List F3} (h : OwnF w base v fs) (k : Chg B w w') (hB : v.ownBlock ≠ some B) : OwnF w' base v fs :=
  World.ownsRow.kept h (row := some B) ⟨k.os, k.tape, k.output, k.size, fun i hi hne => k.block i hi (fun e => hne (by rw [e]))⟩ (.inr hB)
theorem OwnF.ext {w w' : World} {base : Nat} {v : Value} {fs : List F3} (h : OwnF w base v fs) (k : Ext w w') : OwnF w' base v fs := by
  refine World.ownsRow.kept h (row := none) ⟨Below.os k, Below.tape k, Below.output k, Below.size k, fun i hi _ => Below.block k i hi⟩ ?_
  cases v.ownBlock with
  | none => exact .inl rfl
  | some g => exact .inr (by simp)
theorem OwnF.block {w : World} {base : Nat} {v : Value} {fs : List F3} (h : OwnF w base v fs) {B : Nat} (hB : B < base) : v.ownBlock ≠ some B := fun e => by have := (World.ownsRow.lt h B e).1; omega
/-- What an append to such a row leaves of the rest. -/
theorem grown_chg {w w' : World} {base : Nat} {v : Value} {fs : List F3} {B : Nat} {w0 : World} (h : OwnF w base v fs) (hg : w.grownBy w' v.ownBlock) (hb : w0.heap.size ≤ base) (hc : Chg B w0 w) : Chg B w0 w' :=
  ⟨hg.os.trans hc.os, hg.tape.trans hc.tape, hg.output.trans hc.output, Nat.le_trans hc.size hg.size, fun k hk hkB => (hg.block k (Nat.lt_of_lt_of_le hk hc.size) (fun e => by have := (World.ownsRow.lt h k e.symm).1; omega)).trans (hc.block k hk hkB)⟩
theorem grown_ext {w w' : World} {base : Nat} {v : Value} {fs : List F3} {w0 : World} (h : OwnF w base v fs) (hg : w.grownBy w' v.ownBlock) (hb : w0.heap.size ≤ base) (hc : Ext w0 w) : Ext w0 w' :=
  ⟨hg.os.trans (Below.os hc), hg.tape.trans (Below.tape hc), hg.output.trans (Below.output hc), Nat.le_trans (Below.size hc) hg.size, fun k hk => (hg.block k (Nat.lt_of_lt_of_le hk (Below.size hc)) (fun e => by have := (World.ownsRow.lt h k e.symm).1; omega)).trans (Below.block hc k hk)⟩
theorem grown_box {w w' : World} {base : Nat} {v : Value} {fs : List F3} {n : Nat} {vs : List Value} (h : OwnF w base v fs) (hg : w.grownBy w' v.ownBlock) (hn : v.ownBlock ≠ some n) (hbx : Box w n vs) : Box w' n vs := by
  intro i u hu
  obtain ⟨c, f⟩ := hbx i u hu
  have hl := World.block_lt_of_cell? w _ c
  have e := hg.block n hl (fun e => hn e.symm)
  exact ⟨by rw [World.cell?_of_block (w := w) (a := ⟨n, i, none⟩) e]; exact c, by rw [World.frozen?_of_block (w := w) (a := ⟨n, i, none⟩) e]; exact f⟩

theorem OwnF.mono {w : World} {base b2 : Nat} {v : Value} {fs : List F3} (h : OwnF w base v fs) (hb : b2 ≤ base) : OwnF w b2 v fs := by
  refine ⟨h.1, ?_⟩
  rcases h.2 with h1 | ⟨g, cap, cur, hv, hg, r⟩
  · exact .inl h1
  · exact .inr ⟨g, cap, cur, hv, by omega, r⟩
/-- One fix is put behind a row. -/
theorem OwnF.snoc {w : World} {base : Nat} {v : Value} {fs : List F3} {t x y : Int} (h : w.ownsRow base 44 3 v (fs.length + 1) (cellsF fs ++ [.int .i64 t, .int .i64 x, .int .i64 y])) : OwnF w base v (fs ++ [⟨t, x, y⟩]) := by
  rw [cellsF_app fs ⟨t, x, y⟩] at h
  unfold OwnF
  rw [List.length_append]
  exact h
theorem one_cells {w : World} {t x y : Int} {ty : TypeId} : ∀ (j : Nat) (u : Value), ([Value.int .i64 t, .int .i64 x, .int .i64 y] : List Value)[j]? = some u → (w.alloc (.cells #[.int .i64 t, .int .i64 x, .int .i64 y] ty)).cell? ((⟨w.heap.size, 0, none⟩ : Addr).add j) = some u := by
  intro j u hu
  rw [show (⟨w.heap.size, 0, none⟩ : Addr).add j = ⟨w.heap.size, j, none⟩ by simp [Addr.add]; omega]
  exact boxed j (by simpa using hu) rfl
theorem one_ones {t x y : Int} : ∀ u ∈ ([Value.int .i64 t, .int .i64 x, .int .i64 y] : List Value), u.oneCell' = true := by
  intro u hu
  simp at hu
  rcases hu with rfl | rfl | rfl <;> rfl

end Go.Proofs.Ytookaodccmlkoaa.Trk

/- Steps in a region that draws its order, by hand, of no program: an operation that its guard passes over, one that looks at no memory but the cells that are held. -/
namespace Go.Proofs.Ytookaodccmlkoaa.Ord
open Go

theorem skipH {P : Program} {md : Region.Mode} {ops : Array Oper} {Q : Exit → Act → World → Prop} {S : World → Prop} {fuel : Nat} {listed : Array Bool} {a : Act} {w : World} (i d : Nat) {oi : Oper}
    (hi : ops[i]? = some oi) (hd : oi.dst = some d) (hs : Region.noSelect ops = true) (hf : Region.free md ops listed i = true) (hr : (Region.ready md ops listed).contains i = true)
    (hQ : ∀ c a w, Q (.panic c) (a.put (some d) undef) w → Q (.panic c) a w) (hw : Region.wanted oi (yielded ops a.tmps) = false) (hS : S w)
    (h : wpAnyH P md ops Q S fuel (listed.setIfInBounds i true) (a.put (some d) undef) w) : wpAnyH P md ops Q S (fuel + 1) listed a w := by
  rw [← hd] at h hQ
  exact wpAnyH_take hi hs hf hr hQ (Or.inr ⟨hw, rfl⟩) hS h

theorem takeH {P : Program} {md : Region.Mode} {ops : Array Oper} {Q : Exit → Act → World → Prop} {S : World → Prop} {fuel : Nat} {listed : Array Bool} {a : Act} {w : World} (i d : Nat) {v : Value} {oi : Oper}
    (hi : ops[i]? = some oi) (hd : oi.dst = some d) (hs : Region.noSelect ops = true) (hf : Region.free md ops listed i = true) (hr : (Region.ready md ops listed).contains i = true)
    (hQ : ∀ c a w, Q (.panic c) (a.put (some d) v) w → Q (.panic c) a w) (hw : Region.wanted oi (yielded ops a.tmps) = true) (hy : ∀ w, S w → (execOp a.eval oi).run P w = .ok (.value v) w) (hS : S w)
    (h : wpAnyH P md ops Q S fuel (listed.setIfInBounds i true) (a.put (some d) v) w) : wpAnyH P md ops Q S (fuel + 1) listed a w := by
  rw [← hd] at h hQ
  exact wpAnyH_take hi hs hf hr hQ (Or.inl ⟨hw, hy⟩) hS h

end Go.Proofs.Ytookaodccmlkoaa.Ord

/- Contracts of the functions on segments of chapter 2 (impl and spec): what each call returns, as a plain Lean function; nothing that was there is written. -/
namespace Go.Proofs.Ytookaodccmlkoaa.Seg
open Go.ChangeShapes Go.WideShapes Go.ChangeAt Go.RowKit
open Go.Proofs.Ytookaodccmlkoaa.Num Go.Proofs.Ytookaodccmlkoaa.Kit Go.Proofs.Ytookaodccmlkoaa.Pts
set_option linter.unusedVariables false

abbrev Sg (a b c d : Int) : Value := .agg #[.int .i64 a, .int .i64 b, .int .i64 c, .int .i64 d]

/-- Is a number a valid coordinate? -/
abbrev Co (n : Int) : Prop := -1000000 ≤ n ∧ n ≤ 1000000

/-- Is a segment valid? -/
def sgB (a b c d : Int) : Bool := ptB a b && (ptB c d && !(a == c && b == d))
theorem sgB_yes {a b c d : Int} (h : sgB a b c d = true) : (Co a ∧ Co b ∧ Co c ∧ Co d) ∧ ¬ (a = c ∧ b = d) := by
  unfold sgB at h
  simp only [Bool.and_eq_true, Bool.not_eq_true', Bool.and_eq_false_iff, beq_eq_false_iff_ne] at h
  obtain ⟨h1, h2, h3⟩ := h
  have p := ptB_yes h1; have q := ptB_yes h2
  refine ⟨⟨p.1, p.2, q.1, q.2⟩, fun h => ?_⟩
  rcases h3 with h3 | h3
  · exact h3 h.1
  · exact h3 h.2

theorem sgValid_any (a b c d : Int) (w : World) : Calls Try.prog 66 #[Sg a b c d] w fun e w' => e = .returned (.bool (sgB a b c d)) ∧ Ext w w' := by
  cases h1 : ptB a b
  · have H := Lib.hid (show sgB a b c d = false by unfold sgB; rw [h1]; rfl)
    go_enter Try.func66, Try.ntmps66
    go_wp2_with (go_at_call 44; refine (isValid_any _ _ _).mono ?_; rintro e w1 ⟨rfl, hx⟩; obtain ⟨hc, hf⟩ := hx.facts; have hz := hx.size; (try simp at hz); (try (have hz0 : w.heap.size < w1.heap.size := by omega)); (try (have hz1 : w.heap.size + 1 < w1.heap.size := by omega)); (try (have hz2 : w.heap.size + 1 + 1 < w1.heap.size := by omega)); (try (have hz3 : w.heap.size + 1 + 1 + 1 < w1.heap.size := by omega)))
    go_ret
    exact ⟨ret_bool H.out, (by repeat (first | exact Ext.refl _ | assumption | apply Ext.alloc | apply Ext.drew | (refine Ext.trans ?_ (by assumption)) | (refine Ext.setNew ?_ (by simp <;> omega) _)))⟩
  cases h2 : ptB c d
  · have H := Lib.hid (show sgB a b c d = false by unfold sgB; rw [h1, h2]; rfl)
    go_enter Try.func66, Try.ntmps66
    go_wp2_with (go_at_call 44; refine (isValid_any _ _ _).mono ?_; rintro e w1 ⟨rfl, hx⟩; obtain ⟨hc, hf⟩ := hx.facts; have hz := hx.size; (try simp at hz); (try (have hz0 : w.heap.size < w1.heap.size := by omega)); (try (have hz1 : w.heap.size + 1 < w1.heap.size := by omega)); (try (have hz2 : w.heap.size + 1 + 1 < w1.heap.size := by omega)); (try (have hz3 : w.heap.size + 1 + 1 + 1 < w1.heap.size := by omega)))
    go_ret
    exact ⟨ret_bool H.out, (by repeat (first | exact Ext.refl _ | assumption | apply Ext.alloc | apply Ext.drew | (refine Ext.trans ?_ (by assumption)) | (refine Ext.setNew ?_ (by simp <;> omega) _)))⟩
  · have H := Lib.hid (show sgB a b c d = !(a == c && b == d) by unfold sgB; rw [h1, h2]; rfl)
    cases h3 : (a == c)
    · rw [h3] at H
      go_enter Try.func66, Try.ntmps66
      go_wp2_with (go_at_call 44; refine (isValid_any _ _ _).mono ?_; rintro e w1 ⟨rfl, hx⟩; obtain ⟨hc, hf⟩ := hx.facts; have hz := hx.size; (try simp at hz); (try (have hz0 : w.heap.size < w1.heap.size := by omega)); (try (have hz1 : w.heap.size + 1 < w1.heap.size := by omega)); (try (have hz2 : w.heap.size + 1 + 1 < w1.heap.size := by omega)); (try (have hz3 : w.heap.size + 1 + 1 + 1 < w1.heap.size := by omega)))
      go_ret
      exact ⟨ret_bool H.out, (by repeat (first | exact Ext.refl _ | assumption | apply Ext.alloc | apply Ext.drew | (refine Ext.trans ?_ (by assumption)) | (refine Ext.setNew ?_ (by simp <;> omega) _)))⟩
    · rw [h3] at H
      cases h4 : (b == d)
      · rw [h4] at H
        go_enter Try.func66, Try.ntmps66
        go_wp2_with (go_at_call 44; refine (isValid_any _ _ _).mono ?_; rintro e w1 ⟨rfl, hx⟩; obtain ⟨hc, hf⟩ := hx.facts; have hz := hx.size; (try simp at hz); (try (have hz0 : w.heap.size < w1.heap.size := by omega)); (try (have hz1 : w.heap.size + 1 < w1.heap.size := by omega)); (try (have hz2 : w.heap.size + 1 + 1 < w1.heap.size := by omega)); (try (have hz3 : w.heap.size + 1 + 1 + 1 < w1.heap.size := by omega)))
        go_ret
        exact ⟨ret_bool H.out, (by repeat (first | exact Ext.refl _ | assumption | apply Ext.alloc | apply Ext.drew | (refine Ext.trans ?_ (by assumption)) | (refine Ext.setNew ?_ (by simp <;> omega) _)))⟩
      · rw [h4] at H
        go_enter Try.func66, Try.ntmps66
        go_wp2_with (go_at_call 44; refine (isValid_any _ _ _).mono ?_; rintro e w1 ⟨rfl, hx⟩; obtain ⟨hc, hf⟩ := hx.facts; have hz := hx.size; (try simp at hz); (try (have hz0 : w.heap.size < w1.heap.size := by omega)); (try (have hz1 : w.heap.size + 1 < w1.heap.size := by omega)); (try (have hz2 : w.heap.size + 1 + 1 < w1.heap.size := by omega)); (try (have hz3 : w.heap.size + 1 + 1 + 1 < w1.heap.size := by omega)))
        go_ret
        exact ⟨ret_bool H.out, (by repeat (first | exact Ext.refl _ | assumption | apply Ext.alloc | apply Ext.drew | (refine Ext.trans ?_ (by assumption)) | (refine Ext.setNew ?_ (by simp <;> omega) _)))⟩

theorem isSegment_spec (a b c d : Int) (w : World) : Calls Try.prog 69 #[Sg a b c d] w fun e w' => e = .returned (.bool (sgB a b c d)) ∧ Ext w w' := by
  cases h1 : ptB a b
  · have H := Lib.hid (show sgB a b c d = false by unfold sgB; rw [h1]; rfl)
    go_enter Try.func69, Try.ntmps69
    go_wp2_with (go_at_call 47; refine (isPoint_spec _ _ _).mono ?_; rintro e w1 ⟨rfl, hx⟩; obtain ⟨hc, hf⟩ := hx.facts; have hz := hx.size; (try simp at hz); (try (have hz0 : w.heap.size < w1.heap.size := by omega)); (try (have hz1 : w.heap.size + 1 < w1.heap.size := by omega)); (try (have hz2 : w.heap.size + 1 + 1 < w1.heap.size := by omega)); (try (have hz3 : w.heap.size + 1 + 1 + 1 < w1.heap.size := by omega)))
    go_ret
    exact ⟨ret_bool H.out, (by repeat (first | exact Ext.refl _ | assumption | apply Ext.alloc | apply Ext.drew | (refine Ext.trans ?_ (by assumption)) | (refine Ext.setNew ?_ (by simp <;> omega) _)))⟩
  cases h2 : ptB c d
  · have H := Lib.hid (show sgB a b c d = false by unfold sgB; rw [h1, h2]; rfl)
    go_enter Try.func69, Try.ntmps69
    go_wp2_with (go_at_call 47; refine (isPoint_spec _ _ _).mono ?_; rintro e w1 ⟨rfl, hx⟩; obtain ⟨hc, hf⟩ := hx.facts; have hz := hx.size; (try simp at hz); (try (have hz0 : w.heap.size < w1.heap.size := by omega)); (try (have hz1 : w.heap.size + 1 < w1.heap.size := by omega)); (try (have hz2 : w.heap.size + 1 + 1 < w1.heap.size := by omega)); (try (have hz3 : w.heap.size + 1 + 1 + 1 < w1.heap.size := by omega)))
    go_ret
    exact ⟨ret_bool H.out, (by repeat (first | exact Ext.refl _ | assumption | apply Ext.alloc | apply Ext.drew | (refine Ext.trans ?_ (by assumption)) | (refine Ext.setNew ?_ (by simp <;> omega) _)))⟩
  · have H := Lib.hid (show sgB a b c d = !(a == c && b == d) by unfold sgB; rw [h1, h2]; rfl)
    cases h3 : (a == c)
    · rw [h3] at H
      go_enter Try.func69, Try.ntmps69
      go_wp2_with (go_at_call 47; refine (isPoint_spec _ _ _).mono ?_; rintro e w1 ⟨rfl, hx⟩; obtain ⟨hc, hf⟩ := hx.facts; have hz := hx.size; (try simp at hz); (try (have hz0 : w.heap.size < w1.heap.size := by omega)); (try (have hz1 : w.heap.size + 1 < w1.heap.size := by omega)); (try (have hz2 : w.heap.size + 1 + 1 < w1.heap.size := by omega)); (try (have hz3 : w.heap.size + 1 + 1 + 1 < w1.heap.size := by omega)))
      go_ret
      exact ⟨ret_bool H.out, (by repeat (first | exact Ext.refl _ | assumption | apply Ext.alloc | apply Ext.drew | (refine Ext.trans ?_ (by assumption)) | (refine Ext.setNew ?_ (by simp <;> omega) _)))⟩
    · rw [h3] at H
      cases h4 : (b == d)
      · rw [h4] at H
        go_enter Try.func69, Try.ntmps69
        go_wp2_with (go_at_call 47; refine (isPoint_spec _ _ _).mono ?_; rintro e w1 ⟨rfl, hx⟩; obtain ⟨hc, hf⟩ := hx.facts; have hz := hx.size; (try simp at hz); (try (have hz0 : w.heap.size < w1.heap.size := by omega)); (try (have hz1 : w.heap.size + 1 < w1.heap.size := by omega)); (try (have hz2 : w.heap.size + 1 + 1 < w1.heap.size := by omega)); (try (have hz3 : w.heap.size + 1 + 1 + 1 < w1.heap.size := by omega)))
        go_ret
        exact ⟨ret_bool H.out, (by repeat (first | exact Ext.refl _ | assumption | apply Ext.alloc | apply Ext.drew | (refine Ext.trans ?_ (by assumption)) | (refine Ext.setNew ?_ (by simp <;> omega) _)))⟩
      · rw [h4] at H
        go_enter Try.func69, Try.ntmps69
        go_wp2_with (go_at_call 47; refine (isPoint_spec _ _ _).mono ?_; rintro e w1 ⟨rfl, hx⟩; obtain ⟨hc, hf⟩ := hx.facts; have hz := hx.size; (try simp at hz); (try (have hz0 : w.heap.size < w1.heap.size := by omega)); (try (have hz1 : w.heap.size + 1 < w1.heap.size := by omega)); (try (have hz2 : w.heap.size + 1 + 1 < w1.heap.size := by omega)); (try (have hz3 : w.heap.size + 1 + 1 + 1 < w1.heap.size := by omega)))
        go_ret
        exact ⟨ret_bool H.out, (by repeat (first | exact Ext.refl _ | assumption | apply Ext.alloc | apply Ext.drew | (refine Ext.trans ?_ (by assumption)) | (refine Ext.setNew ?_ (by simp <;> omega) _)))⟩

theorem vector_any (a b c d : Int) (w : World) (ha : Co a) (hb : Co b) (hc : Co c) (hd : Co d) :
    Calls Try.prog 88 #[Sg a b c d] w fun e w' => e = .returned (Pt (c - a) (d - b)) ∧ Ext w w' := by
  go_enter Try.func88, Try.ntmps88
  go_wp2_with fail
  refine (vectorTo_any _ _ _ _ _ ha hb hc hd).mono ?_
  rintro e w1 ⟨rfl, hx⟩
  have B := Lib.hid ((Box.new2 (w := w.alloc (.cells #[.int .i64 a, .int .i64 b, .int .i64 c, .int .i64 d] 59)) (n := w.heap.size + 1) (x := .int .i64 0) (y := .int .i64 0) (t := 25) (by simp)).ext hx)
  obtain ⟨⟨c0, c1⟩, f0, f1⟩ := B.out.two
  go_wp2
  obtain ⟨⟨g0, g1⟩, _, _⟩ := (B.out.set2 (u := .int .i64 (c - a)) (v := .int .i64 (d - b))).two
  exact bodyPost_ret (v := Pt (c - a) (d - b)) (by simp [results, Try.results88, go_sem, g0, g1]) rfl ⟨rfl, (by repeat (first | exact Ext.refl _ | assumption | apply Ext.alloc | apply Ext.drew | (refine Ext.trans ?_ (by assumption)) | (refine Ext.setNew ?_ (by simp <;> omega) _)))⟩

/-- Twice the area of the triangle of a segment and a point, with its sign. -/
def crs (a b c d p q : Int) : Int := (c - a) * (q - b) - (d - b) * (p - a)

theorem turnTo_any (a b c d p q : Int) (w : World) (ha : Co a) (hb : Co b) (hc : Co c) (hd : Co d) (hp : Co p) (hq : Co q) :
    Calls Try.prog 50 #[Sg a b c d, Pt p q] w fun e w' => e = .returned (.int .i64 (crs a b c d p q)) ∧ Ext w w' := by
  have H := Lib.hid (show crs a b c d p q = (c - a) * (q - b) - (d - b) * (p - a) from rfl)
  go_enter Try.func50, Try.ntmps50
  go_wp2_with fail
  go_region_held3 (fun w' => w'.cell? ⟨w.heap.size, 0, none⟩ = some (.int .i64 a) ∧ w'.cell? ⟨w.heap.size, 1, none⟩ = some (.int .i64 b) ∧ w'.cell? ⟨w.heap.size, 2, none⟩ = some (.int .i64 c) ∧ w'.cell? ⟨w.heap.size, 3, none⟩ = some (.int .i64 d) ∧ w'.cell? ⟨w.heap.size + 1, 0, none⟩ = some (.int .i64 p) ∧ w'.cell? ⟨w.heap.size + 1, 1, none⟩ = some (.int .i64 q))
    (first | go_keep | (go_split_ands; refine ⟨?_, ?_, ?_, ?_, ?_, ?_⟩ <;> exact Ext.cellOf hx (by assumption)))
    (first | (go_at_call 88; refine (vector_any _ _ _ _ _ (by omega) (by omega) (by omega) (by omega)).mono ?_; rintro e w1 ⟨rfl, hx⟩) | (go_at_call 90; refine (vectorTo_any _ _ _ _ _ (by omega) (by omega) (by omega) (by omega)).mono ?_; rintro e w1 ⟨rfl, hx⟩) | (go_at_call 89; refine (cross_any _ _ _ _ _ (by omega) (by omega) (by omega) (by omega)).mono ?_; rintro e w1 ⟨rfl, hx⟩))
  all_goals
    go_wp2
    go_ret
    exact ⟨ret_int H.out, (by repeat (first | exact Ext.refl _ | assumption | apply Ext.alloc | apply Ext.drew | (refine Ext.trans ?_ (by assumption)) | (refine Ext.setNew ?_ (by simp <;> omega) _)))⟩

/-! ### laws -/
end Go.Proofs.Ytookaodccmlkoaa.Seg

/- The contract of laws.big: is a code longer than 4096 bytes? -/
namespace Go.Proofs.Ytookaodccmlkoaa.Draw
open Go.ChangeShapes Go.WideShapes Go.ChangeAt Go.RowKit
open Go.Proofs.Ytookaodccmlkoaa.Kit Go.Proofs.Ytookaodccmlkoaa.Num
set_option linter.unusedVariables false

def bigB (len : Nat) : Bool := decide (4096 < len)

theorem big_any (a : Option Addr) (len cap : Nat) (w : World) : Calls Try.prog 9 #[.slice a len cap] w fun e w' => e = .returned (.bool (bigB len)) ∧ w = w' := by
  have H := Lib.hid (show bigB len = decide (4096 < (len : Int)) by unfold bigB; rw [decide_eq_decide]; omega)
  go_enter Try.func9, Try.ntmps9
  go_wp2
  go_ret
  exact ⟨ret_bool H.out, rfl⟩

end Go.Proofs.Ytookaodccmlkoaa.Draw

/- Plain mathematics: the integer root of a number, and that its two bounds determine it. No program is named here. -/
namespace Go.Proofs.Ytookaodccmlkoaa.Rt

/-- The greatest r at most k with r * r at most n. -/
def rtN : Nat → Nat → Nat
  | 0, _ => 0
  | k + 1, n => if (k + 1) * (k + 1) ≤ n then k + 1 else rtN k n

theorem rtN_sq (n : Nat) : ∀ k, rtN k n * rtN k n ≤ n
  | 0 => by simp [rtN]
  | k + 1 => by
    unfold rtN
    by_cases h : (k + 1) * (k + 1) ≤ n
    · rw [if_pos h]; exact h
    · rw [if_neg h]; exact rtN_sq n k

theorem rtN_max (n : Nat) : ∀ k r, r ≤ k → r * r ≤ n → r ≤ rtN k n
  | 0, r, h, _ => by simp [rtN]; omega
  | k + 1, r, h, hr => by
    unfold rtN
    by_cases h2 : (k + 1) * (k + 1) ≤ n
    · rw [if_pos h2]; exact h
    · rw [if_neg h2]
      exact rtN_max n k r (by
        rcases Nat.lt_or_ge r (k + 1) with h3 | h3
        · omega
        · have : r = k + 1 := by omega
          subst this; exact absurd hr h2) hr

/-- The integer root. -/
def rt (n : Int) : Int := (rtN n.toNat n.toNat : Nat)

theorem rt_nonneg (n : Int) : 0 ≤ rt n := Int.natCast_nonneg _

theorem rt_sq {n : Int} (h : 0 ≤ n) : rt n * rt n ≤ n := by
  have := rtN_sq n.toNat n.toNat
  unfold rt
  rw [← Int.natCast_mul]
  omega

theorem self_le_sq (r : Nat) : r ≤ r * r := by
  cases r with
  | zero => simp
  | succ k => exact Nat.le_mul_of_pos_left _ (by omega)

theorem rt_max {n r : Int} (hr : 0 ≤ r) (h : r * r ≤ n) : r ≤ rt n := by
  obtain ⟨k, rfl⟩ := Int.eq_ofNat_of_zero_le hr
  have h1 : k * k ≤ n.toNat := by
    have : ((k * k : Nat) : Int) ≤ n := by rw [Int.natCast_mul]; exact h
    omega
  have := rtN_max n.toNat n.toNat k (Nat.le_trans (self_le_sq k) h1) h1
  unfold rt
  omega

/-- Squares are ordered as their roots. -/
theorem sq_le {a b : Int} (ha : 0 ≤ a) (h : a ≤ b) : a * a ≤ b * b := Int.mul_le_mul h h ha (by omega)

/-- What lies between its square and the next square is the root. -/
theorem rt_eq {n r : Int} (hr : 0 ≤ r) (h : r * r ≤ n) (h2 : n < (r + 1) * (r + 1)) : rt n = r := by
  have h3 := rt_max hr h
  have h4 : 0 ≤ n := by have := sq_le (a := 0) (b := r) (by omega) hr; omega
  have h5 := rt_sq h4
  rcases Int.lt_or_le r (rt n) with h6 | h6
  · have := sq_le (a := r + 1) (b := rt n) (by omega) (by omega)
    omega
  · omega

theorem lt_next (n : Int) : n < (rt n + 1) * (rt n + 1) := by
  rcases Int.lt_or_le n ((rt n + 1) * (rt n + 1)) with h2 | h2
  · exact h2
  · have := rt_max (n := n) (r := rt n + 1) (by have := rt_nonneg n; omega) h2
    omega

end Go.Proofs.Ytookaodccmlkoaa.Rt

/- Contracts of RootOf (impl, spec): both answer the integer root. -/
namespace Go.Proofs.Ytookaodccmlkoaa.Root
open Go.ChangeShapes Go.WideShapes Go.ChangeAt Go.RowKit
open Go.Proofs.Ytookaodccmlkoaa.Num Go.Proofs.Ytookaodccmlkoaa.Rt
set_option linter.unusedVariables false

theorem sq_bd {m : Int} (h0 : 0 ≤ m) (h1 : m ≤ 1000000001) : 0 ≤ m * m ∧ m * m ≤ 1000000002000000001 := by
  have a := sq_le (a := 0) (b := m) (by omega) h0
  have b := sq_le (a := m) (b := 1000000001) h0 h1
  simp only [Int.reduceMul] at a b
  omega

/-- What the loop of l01Root keeps. -/
def RelS (n : Int) (s t : Value) : Prop := ∃ lo hi : Int, 0 ≤ lo ∧ lo < hi ∧ hi ≤ 1000000001 ∧ lo * lo ≤ n ∧ n < hi * hi ∧ s = .int .i64 lo ∧ t = .int .i64 hi

/-- What RootOf's loop keeps. -/
def RelI (n : Int) (s t : Value) : Prop := ∃ lo hi : Int, 0 ≤ lo ∧ lo ≤ hi ∧ hi ≤ 1000000000 ∧ lo * lo ≤ n ∧ n < (hi + 1) * (hi + 1) ∧ s = .int .i64 lo ∧ t = .int .i64 hi

def roQ (n : Int) : Int := if 0 ≤ n ∧ n ≤ 1000000000000000000 then rt n else 0
def roC (n : Int) : Int := if 0 ≤ n ∧ n ≤ 1000000000000000000 then 0 else 2

end Go.Proofs.Ytookaodccmlkoaa.Root

/- Contracts of comparing two products of two words (impl.compareProducts), over the library's Mul64. -/
namespace Go.Proofs.Ytookaodccmlkoaa.Cmp
open Go.ChangeShapes Go.WideShapes Go.ChangeAt Go.RowKit
open Go.Proofs.Ytookaodccmlkoaa.Num Go.Proofs.Ytookaodccmlkoaa.Kit Go.Proofs.Ytookaodccmlkoaa.Pts
set_option linter.unusedVariables false
set_option linter.unusedSimpArgs false

/-- -1, 0 or 1 as x is less than, equal to or greater than y. -/
def cmpZ (x y : Int) : Int := if x < y then -1 else if y < x then 1 else 0
theorem cmpZ_bd (x y : Int) : -1 ≤ cmpZ x y ∧ cmpZ x y ≤ 1 := by
  unfold cmpZ; by_cases h : x < y
  · rw [if_pos h]; decide
  · by_cases g : y < x
    · rw [if_neg h, if_pos g]; decide
    · rw [if_neg h, if_neg g]; decide
theorem cmpZ_lt {x y : Int} (h : x < y) : cmpZ x y = -1 := if_pos h
theorem cmpZ_gt {x y : Int} (h : y < x) : cmpZ x y = 1 := by unfold cmpZ; rw [if_neg (by omega), if_pos h]
theorem cmpZ_eq {x y : Int} (h : x = y) : cmpZ x y = 0 := by unfold cmpZ; rw [if_neg (by omega), if_neg (by omega)]
/-- By the upper words; where they are equal, by the lower ones. -/
theorem cmpZ_words (P Q : Int) : (if cmpZ (P / 18446744073709551616) (Q / 18446744073709551616) = 0 then cmpZ (P % 18446744073709551616) (Q % 18446744073709551616) else cmpZ (P / 18446744073709551616) (Q / 18446744073709551616)) = cmpZ P Q := by
  rcases Int.lt_trichotomy (P / 18446744073709551616) (Q / 18446744073709551616) with h | h | h
  · rw [cmpZ_lt h, if_neg (by decide), cmpZ_lt (by omega)]
  · rw [cmpZ_eq h, if_pos rfl]
    rcases Int.lt_trichotomy (P % 18446744073709551616) (Q % 18446744073709551616) with g | g | g
    · rw [cmpZ_lt g, cmpZ_lt (by omega)]
    · rw [cmpZ_eq g, cmpZ_eq (by omega)]
    · rw [cmpZ_gt g, cmpZ_gt (by omega)]
  · rw [cmpZ_gt h, if_neg (by decide), cmpZ_gt (by omega)]

theorem compare_any (x y : Int) (w : World) : Calls Try.prog 125 #[.int .u64 x, .int .u64 y] w fun e w' => e = .returned (.int .i64 (cmpZ x y)) ∧ w = w' := by
  by_cases h : x < y
  · have H := Lib.hid (cmpZ_lt h)
    go_enter Try.func125, Try.ntmps125
    go_wp2
    go_ret
    exact ⟨ret_int H.out, rfl⟩
  · by_cases g : y < x
    · have H := Lib.hid (cmpZ_gt g)
      go_enter Try.func125, Try.ntmps125
      go_wp2
      go_ret
      exact ⟨ret_int H.out, rfl⟩
    · have H := Lib.hid (cmpZ_eq (x := x) (y := y) (by omega))
      go_enter Try.func125, Try.ntmps125
      go_wp2
      go_ret
      exact ⟨ret_int H.out, rfl⟩

/-- The first of two numbers that is not 0. -/
def orZ (x y : Int) : Int := if x = 0 then y else x
def RelO (x y : Int) (s : Value) : Prop := s = .int .i64 0 ∨ (s = .int .i64 1 ∧ x = 0) ∨ (s = .int .i64 2 ∧ x = 0 ∧ y = 0)
theorem or_any (B : Nat) (x y : Int) (w : World) (h0 : w.cell? ⟨B, 0, none⟩ = some (.int .i64 x)) (h1 : w.cell? ⟨B, 1, none⟩ = some (.int .i64 y)) :
    Calls Try.prog 124 #[.slice (some ⟨B, 0, none⟩) 2 2] w fun e w' => e = .returned (.int .i64 (orZ x y)) ∧ w = w' := by
  go_enter Try.func124, Try.ntmps124
  go_wp2
  go_loop [8] (fun s => RelO x y s) (fun s => 2 - (intOf s).toNat)
  case atStart => exact .inl rfl
  case round =>
    rcases hrel with rfl | ⟨rfl, hx⟩ | ⟨rfl, hx, hy⟩
    · by_cases hx : x = 0
      · have hx1 : (x == 0) = true := beq_iff_eq.2 hx
        have HX := Lib.hid hx
        clear hx
        go_wp2
        go_round
        case rel => exact .inr (.inl ⟨rfl, HX.out⟩)
        case measure => simp [intOf]
      · have hx1 : (x == 0) = false := beq_eq_false_iff_ne.2 hx
        have H := Lib.hid (show orZ x y = x from if_neg hx)
        clear hx
        go_wp2
        go_ret
        exact ⟨ret_int H.out, rfl⟩
    · have HX := Lib.hid hx
      clear hx
      by_cases hy : y = 0
      · have hy1 : (y == 0) = true := beq_iff_eq.2 hy
        have HY := Lib.hid hy
        clear hy
        go_wp2
        go_round
        case rel => exact .inr (.inr ⟨rfl, HX.out, HY.out⟩)
        case measure => simp [intOf]
      · have hy1 : (y == 0) = false := beq_eq_false_iff_ne.2 hy
        have H := Lib.hid (show orZ x y = y from if_pos HX.out)
        clear hy
        go_wp2
        go_ret
        exact ⟨ret_int H.out, rfl⟩
    · have H := Lib.hid (show orZ x y = 0 by unfold orZ; rw [if_pos hx, hy])
      clear hx hy
      go_wp2
      go_ret
      exact ⟨ret_int H.out, rfl⟩

theorem compareProducts_any (a b c d : Nat) (w : World) (ha : a ≤ 1000000000000000000) (hb : b ≤ 1000000000000000000) (hc : c ≤ 1000000000000000000) (hd : d ≤ 1000000000000000000) :
    Calls Try.prog 97 #[.int .i64 a, .int .i64 b, .int .i64 c, .int .i64 d] w fun e w' => e = .returned (.int .i64 (cmpZ ((a : Int) * b) ((c : Int) * d))) ∧ Ext w w' := by
  have p1 : ((a * b : Nat) : Int) = (a : Int) * b := Int.natCast_mul a b
  have p2 : ((c * d : Nat) : Int) = (c : Int) * d := Int.natCast_mul c d
  have q1 : ((a * b / 18446744073709551616 : Nat) : Int) = ((a : Int) * b) / 18446744073709551616 := by rw [← p1]; omega
  have q2 : ((c * d / 18446744073709551616 : Nat) : Int) = ((c : Int) * d) / 18446744073709551616 := by rw [← p2]; omega
  have q3 : ((a * b % 18446744073709551616 : Nat) : Int) = ((a : Int) * b) % 18446744073709551616 := by rw [← p1]; omega
  have q4 : ((c * d % 18446744073709551616 : Nat) : Int) = ((c : Int) * d) % 18446744073709551616 := by rw [← p2]; omega
  have H := Lib.hid (show cmpZ ((a : Int) * b) ((c : Int) * d) = orZ (cmpZ ((a * b / 18446744073709551616 : Nat) : Int) ((c * d / 18446744073709551616 : Nat) : Int)) (cmpZ ((a * b % 18446744073709551616 : Nat) : Int) ((c * d % 18446744073709551616 : Nat) : Int)) by
    rw [q1, q2, q3, q4]; exact (cmpZ_words ((a : Int) * b) ((c : Int) * d)).symm)
  clear p1 p2 q1 q2 q3 q4
  go_enter Try.func97, Try.ntmps97
  go_wp2_with fail
  refine (Try.bits_Mul64 a b (by omega) (by omega) _).mono ?_
  rintro e w1 ⟨rfl, rfl⟩
  generalize (a * b / 18446744073709551616 : Nat) = P at H ⊢
  generalize (a * b % 18446744073709551616 : Nat) = Q at H ⊢
  go_wp2_with fail
  refine (Try.bits_Mul64 c d (by omega) (by omega) _).mono ?_
  rintro e w1 ⟨rfl, rfl⟩
  generalize (c * d / 18446744073709551616 : Nat) = R at H ⊢
  generalize (c * d % 18446744073709551616 : Nat) = T at H ⊢
  go_wp2_with fail
  refine (compare_any _ _ _).mono ?_
  rintro e w2 ⟨rfl, rfl⟩
  go_wp2_with fail
  refine (compare_any _ _ _).mono ?_
  rintro e w2 ⟨rfl, rfl⟩
  go_wp2_with fail
  refine (or_any _ _ _ _ (boxed 0 rfl rfl) (boxed 1 rfl rfl)).mono ?_
  rintro e w2 ⟨rfl, rfl⟩
  go_wp2
  go_ret
  exact ⟨ret_int H.out, (by repeat (first | exact Ext.refl _ | assumption | apply Ext.alloc | apply Ext.drew | (refine Ext.trans ?_ (by assumption)) | (refine Ext.setNew ?_ (by simp <;> omega) _)))⟩

end Go.Proofs.Ytookaodccmlkoaa.Cmp

/- Plain mathematics: one step of long division by a divisor of two digits (Knuth's algorithm D), as math/bits.Div64 does it. No program is named here. -/
namespace Go.Proofs.Ytookaodccmlkoaa.DivM

/-- What one digit's search keeps: k is at least the digit q of (u * 2^32 + c) / Y, and k * n1 + r = u. -/
def Inv (u c Y n1 k r : Nat) : Prop := (u * 4294967296 + c) / Y ≤ k ∧ k ≤ 4294967297 ∧ k * n1 + r = u ∧ r < 4294967296

structure Dig (u c Y n1 n0 : Nat) : Prop where
  y : Y = n1 * 4294967296 + n0
  lo : 2147483648 ≤ n1
  hi : n1 < 4294967296
  n0 : n0 < 4294967296
  u : u < Y
  c : c < 4294967296

theorem mulY {Y n1 n0 k r u : Nat} (hY : Y = n1 * 4294967296 + n0) (h : k * n1 + r = u) : k * Y + r * 4294967296 = u * 4294967296 + k * n0 := by
  subst hY h
  rw [Nat.mul_add, ← Nat.mul_assoc, Nat.add_mul]
  omega

theorem Dig.pos {u c Y n1 n0 : Nat} (D : Dig u c Y n1 n0) : 0 < Y := by have := D.u; omega
theorem le_q {u c Y n1 n0 k r : Nat} (D : Dig u c Y n1 n0) (h : k * n1 + r = u) (hk : k * n0 ≤ 4294967296 * r + c) : k ≤ (u * 4294967296 + c) / Y := by
  rw [Nat.le_div_iff_mul_le D.pos]
  have := mulY D.y h
  omega
theorem q_lt {u c Y n1 n0 k r : Nat} (D : Dig u c Y n1 n0) (h : k * n1 + r = u) (hk : 4294967296 * r + c < k * n0) : (u * 4294967296 + c) / Y < k := by
  rw [Nat.div_lt_iff_lt_mul D.pos]
  have := mulY D.y h
  omega
theorem q_small {u c Y n1 n0 : Nat} (D : Dig u c Y n1 n0) : (u * 4294967296 + c) / Y < 4294967296 := by
  rw [Nat.div_lt_iff_lt_mul D.pos]
  have := D.u; have := D.c
  rw [Nat.mul_comm 4294967296 Y]
  omega

theorem start {u c Y n1 n0 : Nat} (D : Dig u c Y n1 n0) : Inv u c Y n1 (u / n1) (u % n1) := by
  have hp : 0 < n1 := by have := D.lo; omega
  have hq := Nat.div_mul_le_self (u * 4294967296 + c) Y
  have e := Nat.div_add_mod u n1
  refine ⟨?_, ?_, ?_, ?_⟩
  · rw [Nat.le_div_iff_mul_le hp]
    generalize (u * 4294967296 + c) / Y = q at *
    rw [D.y, Nat.mul_add, ← Nat.mul_assoc] at hq
    have := D.c
    omega
  · have : u / n1 < 4294967298 := by
      rw [Nat.div_lt_iff_lt_mul hp]
      have h1 := D.u; have h2 := D.y; have h3 := D.n0; have h4 := D.lo
      rw [Nat.mul_comm]
      omega
    omega
  · rw [Nat.mul_comm]; omega
  · have := Nat.mod_lt u hp; have := D.hi; omega

theorem stop {u c Y n1 n0 k r : Nat} (D : Dig u c Y n1 n0) (I : Inv u c Y n1 k r) (hk : k * n0 ≤ 4294967296 * r + c) : k = (u * 4294967296 + c) / Y :=
  Nat.le_antisymm (le_q D I.2.2.1 hk) I.1

theorem more {u c Y n1 n0 k r : Nat} (D : Dig u c Y n1 n0) (I : Inv u c Y n1 k r) (hk : 4294967296 ≤ k ∨ 4294967296 * r + c < k * n0) :
    1 ≤ k ∧ (u * 4294967296 + c) / Y ≤ k - 1 ∧ (k - 1) * n1 + (r + n1) = u := by
  have h : (u * 4294967296 + c) / Y < k := by
    rcases hk with h | h
    · exact Nat.lt_of_lt_of_le (q_small D) h
    · exact q_lt D I.2.2.1 h
  have hk1 : 1 ≤ k := Nat.lt_of_le_of_lt (Nat.zero_le _) h
  refine ⟨hk1, Nat.le_sub_one_of_lt h, ?_⟩
  have h2 := I.2.2.1
  obtain ⟨m, rfl⟩ : ∃ m, k = m + 1 := ⟨k - 1, by omega⟩
  rw [Nat.add_mul] at h2
  rw [Nat.add_sub_cancel]
  omega
theorem next {u c Y n1 n0 k r : Nat} (D : Dig u c Y n1 n0) (I : Inv u c Y n1 k r) (hk : 4294967296 ≤ k ∨ 4294967296 * r + c < k * n0) (hr : r + n1 < 4294967296) : Inv u c Y n1 (k - 1) (r + n1) := by
  obtain ⟨h1, h2, h3⟩ := more D I hk
  exact ⟨h2, by have := I.2.1; omega, h3, hr⟩
theorem break_ {u c Y n1 n0 k r : Nat} (D : Dig u c Y n1 n0) (I : Inv u c Y n1 k r) (hk : 4294967296 ≤ k ∨ 4294967296 * r + c < k * n0) (hr : 4294967296 ≤ r + n1) : k - 1 = (u * 4294967296 + c) / Y := by
  obtain ⟨h1, h2, h3⟩ := more D I hk
  refine Nat.le_antisymm (le_q D h3 ?_) h2
  have hk := I.2.1
  have h4 : (k - 1) * n0 ≤ 4294967296 * 4294967295 := Nat.mul_le_mul (by omega) (by have := D.n0; omega)
  have h5 : 4294967296 * 4294967296 ≤ 4294967296 * (r + n1) := Nat.mul_le_mul_left _ hr
  omega

/-- Two digits make the quotient. -/
theorem two {U Y u c0 c1 : Nat} (hY : 0 < Y) (hU : U = (u * 4294967296 + c1) * 4294967296 + c0) :
    U / Y = (u * 4294967296 + c1) / Y * 4294967296 + ((u * 4294967296 + c1) % Y * 4294967296 + c0) / Y ∧ U % Y = ((u * 4294967296 + c1) % Y * 4294967296 + c0) % Y := by
  have e := Nat.div_add_mod (u * 4294967296 + c1) Y
  have hU2 : U = Y * ((u * 4294967296 + c1) / Y * 4294967296) + ((u * 4294967296 + c1) % Y * 4294967296 + c0) := by
    rw [hU]
    generalize (u * 4294967296 + c1) / Y = q at *
    generalize (u * 4294967296 + c1) % Y = r at *
    rw [← e, Nat.add_mul, Nat.mul_assoc]
    omega
  rw [hU2]
  constructor
  · rw [Nat.mul_add_div hY]
  · rw [Nat.mul_add_mod]

/-- Scaling both leaves the quotient, and scales the remainder. -/
theorem scale {N y T : Nat} (hT : 0 < T) : N * T / (y * T) = N / y ∧ N * T % (y * T) / T = N % y := by
  constructor
  · exact Nat.mul_div_mul_right N y hT
  · rw [Nat.mul_mod_mul_right, Nat.mul_div_cancel _ hT]

end Go.Proofs.Ytookaodccmlkoaa.DivM

/- Contracts of CompareRatios (impl, spec): both compare the cross products. -/
namespace Go.Proofs.Ytookaodccmlkoaa.Cmp
open Go.ChangeShapes Go.WideShapes Go.ChangeAt Go.RowKit
open Go.Proofs.Ytookaodccmlkoaa.Num Go.Proofs.Ytookaodccmlkoaa.Kit Go.Proofs.Ytookaodccmlkoaa.Pts
set_option linter.unusedVariables false
set_option linter.unusedSimpArgs false

theorem flo_bd {a b : Int} (hb : 1 ≤ b) : 0 ≤ a - flo a b * b ∧ a - flo a b * b < b := by
  have h : (a.tmod b).natAbs = a.natAbs % b.natAbs := Int.natAbs_tmod a b
  have h2 := Nat.mod_lt a.natAbs (show 0 < b.natAbs by omega)
  have h3 := Int.mul_tdiv_add_tmod a b
  unfold flo
  by_cases hm : a.tmod b < 0
  · rw [if_pos hm, Int.sub_mul, Int.mul_comm (a.tdiv b) b]; omega
  · rw [if_neg hm, Int.mul_comm (a.tdiv b) b]; omega
theorem flo_abs {a b : Int} (hb : 1 ≤ b) (M : Int) (h1 : -M ≤ a) (h2 : a ≤ M) : -M - 1 ≤ flo a b ∧ flo a b ≤ M := by
  obtain ⟨g1, g2⟩ := tdiv_bd hb M h1 h2
  unfold flo; by_cases hm : a.tmod b < 0
  · rw [if_pos hm]; omega
  · rw [if_neg hm]; omega

theorem cmpZ_anti (x y : Int) : cmpZ y x = -cmpZ x y := by
  rcases Int.lt_trichotomy x y with h | h | h
  · rw [cmpZ_lt h, cmpZ_gt h]; rfl
  · rw [cmpZ_eq h, cmpZ_eq h.symm]; rfl
  · rw [cmpZ_gt h, cmpZ_lt h]
theorem cmpZ_shift {x y x' y' : Int} (h : x - y = x' - y') : cmpZ x y = cmpZ x' y' := by
  rcases Int.lt_trichotomy x y with g | g | g
  · rw [cmpZ_lt g, cmpZ_lt (by omega)]
  · rw [cmpZ_eq g, cmpZ_eq (by omega)]
  · rw [cmpZ_gt g, cmpZ_gt (by omega)]
theorem cross_lt {a b c d p q : Int} (hb : 1 ≤ b) (hd : 1 ≤ d) (r1 : a - p * b < b) (s0 : 0 ≤ c - q * d) (h : p < q) : a * d < c * b := by
  have e1 : (p + 1) * b = p * b + b := by rw [Int.add_mul, Int.one_mul]
  have h1 : a * d < (p + 1) * b * d := Int.mul_lt_mul_of_pos_right (by omega) (by omega)
  have h2 : q * d * b ≤ c * b := Int.mul_le_mul_of_nonneg_right (by omega) (by omega)
  have h4 : 0 ≤ b * d := Int.mul_nonneg (by omega) (by omega)
  have h3 : (p + 1) * (b * d) ≤ q * (b * d) := Int.mul_le_mul_of_nonneg_right (by omega) h4
  have e2 : (p + 1) * b * d = (p + 1) * (b * d) := Int.mul_assoc _ _ _
  have e3 : q * d * b = q * (b * d) := by rw [Int.mul_assoc, Int.mul_comm d b]
  omega
theorem cross_same (a b c d p : Int) : (a - p * b) * d - (c - p * d) * b = a * d - c * b := by grind
theorem cross_zero {r s b d : Int} (hr : 0 ≤ r) (hs : 0 ≤ s) (hb : 1 ≤ b) (hd : 1 ≤ d) (h : r = 0 ∨ s = 0) : cmpZ (r * d) (s * b) = sgn (r - s) := by
  rcases h with h | h
  · subst h
    rw [Int.zero_mul]
    rcases Int.lt_or_le 0 s with g | g
    · rw [cmpZ_lt (Int.mul_pos g (by omega))]; unfold sgn; rw [if_pos (by omega)]
    · rw [show s = 0 by omega, Int.zero_mul]; rfl
  · subst h
    rw [Int.zero_mul]
    rcases Int.lt_or_le 0 r with g | g
    · rw [cmpZ_gt (Int.mul_pos g (by omega))]; unfold sgn; rw [if_neg (by omega), if_pos (by omega)]
    · rw [show r = 0 by omega, Int.zero_mul]; rfl
theorem cross_flip (r b s d : Int) : cmpZ (b * s) (d * r) = -cmpZ (r * d) (s * b) := by
  rw [← cmpZ_anti, Int.mul_comm b s, Int.mul_comm d r]
theorem sgn_neg1 {n : Int} (h : n < 0) : sgn n = -1 := if_pos h
theorem sgn_pos1 {n : Int} (h : 0 < n) : sgn n = 1 := by unfold sgn; rw [if_neg (by omega), if_pos h]
theorem sgn_bd (n : Int) : -1 ≤ sgn n ∧ sgn n ≤ 1 := by
  unfold sgn; rcases Int.lt_trichotomy n 0 with h | h | h
  · rw [if_pos h]; decide
  · subst h; decide
  · rw [if_neg (by omega : ¬ n < 0), if_pos h]; decide

/-- What the loop of l02Compare keeps. -/
def RelC (T : Int) (s5 s6 s7 s8 s9 : Value) : Prop := ∃ a b c d g : Int, -100000000000000 ≤ a ∧ a ≤ 100000000000000 ∧ 1 ≤ b ∧ b ≤ 100000000000000 ∧ -100000000000000 ≤ c ∧ c ≤ 100000000000000 ∧ 1 ≤ d ∧ d ≤ 100000000000000 ∧
  (g = 1 ∨ g = -1) ∧ T = g * cmpZ (a * d) (c * b) ∧ s5 = .int .i64 a ∧ s6 = .int .i64 b ∧ s7 = .int .i64 c ∧ s8 = .int .i64 d ∧ s9 = .int .i64 g

set_option maxHeartbeats 2000000 in
theorem compareS_any (x y u v : Int) (w : World) (hx1 : -100000000000000 ≤ x) (hx2 : x ≤ 100000000000000) (hy1 : 1 ≤ y) (hy2 : y ≤ 100000000000000) (hu1 : -100000000000000 ≤ u) (hu2 : u ≤ 100000000000000) (hv1 : 1 ≤ v) (hv2 : v ≤ 100000000000000) :
    Calls Try.prog 101 #[Pt x y, Pt u v] w fun e w' => e = .returned (.int .i64 (cmpZ (x * v) (u * y))) ∧ Ext w w' := by
  go_enter Try.func101, Try.ntmps101
  go_wp2_with fail
  go_quiet (fail)
  go_wp2_with fail
  go_loop [5, 6, 7, 8, 9] (fun s5 s6 s7 s8 s9 => RelC (cmpZ (x * v) (u * y)) s5 s6 s7 s8 s9) (fun s5 s6 s7 s8 s9 => (intOf s6).toNat)
  case atStart => exact ⟨x, y, u, v, 1, hx1, hx2, hy1, hy2, hu1, hu2, hv1, hv2, .inl rfl, by rw [Int.one_mul], rfl, rfl, rfl, rfl, rfl⟩
  case round =>
    clear hx1 hx2 hy1 hy2 hu1 hu2 hv1 hv2
    obtain ⟨a, b, c, d, g, a1, a2, b1, b2, c1, c2, d1, d2, hg, hT, rfl, rfl, rfl, rfl, rfl⟩ := hrel
    obtain ⟨r0, r1⟩ := flo_bd (a := a) b1
    obtain ⟨s0, s1⟩ := flo_bd (a := c) d1
    obtain ⟨p1, p2⟩ := flo_abs (a := a) b1 100000000000000 a1 a2
    obtain ⟨q1, q2⟩ := flo_abs (a := c) d1 100000000000000 c1 c2
    have g1 : -1 ≤ g ∧ g ≤ 1 := by omega
    have P1 : -300000000000000 ≤ flo a b * b ∧ flo a b * b ≤ 300000000000000 := by omega
    have Q1 : -300000000000000 ≤ flo c d * d ∧ flo c d * d ≤ 300000000000000 := by omega
    obtain ⟨P1, P2⟩ := P1
    obtain ⟨Q1, Q2⟩ := Q1
    obtain ⟨G1, G2⟩ := g1
    by_cases hpq : flo a b = flo c d
    · have hpq1 : (flo a b == flo c d) = true := beq_iff_eq.2 hpq
      have hsame : cmpZ (a * d) (c * b) = cmpZ ((a - flo a b * b) * d) ((c - flo c d * d) * b) := by
        rw [← hpq]; exact (cmpZ_shift (cross_same a b c d (flo a b))).symm
      rw [hsame] at hT
      clear hpq hsame
      by_cases hz : a - flo a b * b = 0 ∨ c - flo c d * d = 0
      · rw [cross_zero r0 s0 b1 d1 hz] at hT
        have H := Lib.hid hT
        obtain ⟨e1, e2⟩ := mul_bd 1 1 ⟨G1, G2⟩ (sgn_bd (a - flo a b * b - (c - flo c d * d)))
        simp only [Int.reduceMul, Int.reduceNeg] at e1 e2
        clear hT hg
        by_cases hz1 : a - flo a b * b = 0
        · have z1 : (a - flo a b * b == 0) = true := beq_iff_eq.2 hz1
          clear hz hz1
          go_wp2_with (first | (go_at_call 109; refine (floor_any _ _ _ (by omega) (by omega) (by omega)).mono ?_; rintro e w1 ⟨rfl, rfl⟩) | (go_at_call 42; refine (sign_any _ _).mono ?_; rintro e w1 ⟨rfl, rfl⟩))
          go_ret
          exact ⟨ret_int H.out, (((Ext.refl w).alloc _).alloc _).drewN _⟩
        · have z1 : (a - flo a b * b == 0) = false := beq_eq_false_iff_ne.2 hz1
          have z2 : (c - flo c d * d == 0) = true := beq_iff_eq.2 (hz.resolve_left hz1)
          clear hz hz1
          go_wp2_with (first | (go_at_call 109; refine (floor_any _ _ _ (by omega) (by omega) (by omega)).mono ?_; rintro e w1 ⟨rfl, rfl⟩) | (go_at_call 42; refine (sign_any _ _).mono ?_; rintro e w1 ⟨rfl, rfl⟩))
          go_ret
          exact ⟨ret_int H.out, (((Ext.refl w).alloc _).alloc _).drewN _⟩
      · have z1 : (a - flo a b * b == 0) = false := beq_eq_false_iff_ne.2 (fun h => hz (.inl h))
        have z2 : (c - flo c d * d == 0) = false := beq_eq_false_iff_ne.2 (fun h => hz (.inr h))
        have n1 : 1 ≤ a - flo a b * b := by omega
        have n2 : 1 ≤ c - flo c d * d := by omega
        have H := Lib.hid (show cmpZ (x * v) (u * y) = -g * cmpZ (b * (c - flo c d * d)) (d * (a - flo a b * b)) by rw [hT, cross_flip (a - flo a b * b) b (c - flo c d * d) d, Int.neg_mul_neg])
        have HG := Lib.hid (show -g = 1 ∨ -g = -1 by omega)
        clear hT hz hg
        go_wp2_with (first | (go_at_call 109; refine (floor_any _ _ _ (by omega) (by omega) (by omega)).mono ?_; rintro e w1 ⟨rfl, rfl⟩) | (go_at_call 42; refine (sign_any _ _).mono ?_; rintro e w1 ⟨rfl, rfl⟩))
        go_round
        case rel => exact ⟨b, a - flo a b * b, d, c - flo c d * d, -g, by omega, by omega, by omega, by omega, by omega, by omega, by omega, by omega, HG.out, H.out, rfl, rfl, rfl, rfl, rfl⟩
        case measure => simp [intOf]; omega
    · have hpq1 : (flo a b == flo c d) = false := beq_eq_false_iff_ne.2 hpq
      have hv : cmpZ (a * d) (c * b) = sgn (flo a b - flo c d) := by
        rcases Int.lt_or_le (flo a b) (flo c d) with h | h
        · rw [cmpZ_lt (cross_lt b1 d1 r1 s0 h), sgn_neg1 (by omega)]
        · rw [cmpZ_gt (cross_lt d1 b1 s1 r0 (by omega)), sgn_pos1 (by omega)]
      rw [hv] at hT
      have H := Lib.hid hT
      obtain ⟨e1, e2⟩ := mul_bd 1 1 ⟨G1, G2⟩ (sgn_bd (flo a b - flo c d))
      simp only [Int.reduceMul, Int.reduceNeg] at e1 e2
      clear hT hpq hv hg
      go_wp2_with (first | (go_at_call 109; refine (floor_any _ _ _ (by omega) (by omega) (by omega)).mono ?_; rintro e w1 ⟨rfl, rfl⟩) | (go_at_call 42; refine (sign_any _ _).mono ?_; rintro e w1 ⟨rfl, rfl⟩))
      go_ret
      exact ⟨ret_int H.out, (((Ext.refl w).alloc _).alloc _).drewN _⟩

/-- Is a ratio within lo .. 1 (lo: 0 or -1)? -/
def raB (n d lo : Int) : Bool := decide (1 ≤ d) && (decide (d ≤ 100000000000000) && (decide (lo * d ≤ n) && decide (n ≤ d)))
theorem raB_yes {n d lo : Int} (h : raB n d lo = true) : 1 ≤ d ∧ d ≤ 100000000000000 ∧ lo * d ≤ n ∧ n ≤ d := by
  unfold raB at h; simp only [Bool.and_eq_true, decide_eq_true_eq] at h; exact ⟨h.1, h.2.1, h.2.2.1, h.2.2.2⟩

theorem isWithin0_any (n d : Int) (w : World) : Calls Try.prog 67 #[Pt n d, .int .i64 0] w fun e w' => e = .returned (.bool (raB n d 0)) ∧ Ext w w' := by
  by_cases h1 : 1 ≤ d
  · by_cases h2 : d ≤ 100000000000000
    · have H := Lib.hid (show raB n d 0 = (decide (0 ≤ n) && decide (n ≤ d)) by unfold raB; rw [decide_eq_true h1, decide_eq_true h2, show 0 * d = 0 by omega]; rfl)
      by_cases h3 : 0 ≤ n
      · rw [decide_eq_true h3] at H
        go_enter Try.func67, Try.ntmps67
        go_wp2
        all_goals
          go_ret
          exact ⟨ret_bool (by first | exact H.out | (rw [H.out]; simp; omega) | (rw [H.out]; simp)), (by repeat (first | exact Ext.refl _ | assumption | apply Ext.alloc | apply Ext.drew | (refine Ext.trans ?_ (by assumption)) | (refine Ext.setNew ?_ (by simp <;> omega) _)))⟩
      · rw [decide_eq_false h3] at H
        go_enter Try.func67, Try.ntmps67
        go_wp2
        all_goals
          go_ret
          exact ⟨ret_bool (by first | exact H.out | (rw [H.out]; simp; omega) | (rw [H.out]; simp)), (by repeat (first | exact Ext.refl _ | assumption | apply Ext.alloc | apply Ext.drew | (refine Ext.trans ?_ (by assumption)) | (refine Ext.setNew ?_ (by simp <;> omega) _)))⟩
    · have H := Lib.hid (show raB n d 0 = false by unfold raB; rw [decide_eq_true h1, decide_eq_false h2]; rfl)
      go_enter Try.func67, Try.ntmps67
      go_wp2
      go_ret
      exact ⟨ret_bool H.out, (by repeat (first | exact Ext.refl _ | assumption | apply Ext.alloc | apply Ext.drew | (refine Ext.trans ?_ (by assumption)) | (refine Ext.setNew ?_ (by simp <;> omega) _)))⟩
  · have H := Lib.hid (show raB n d 0 = false by unfold raB; rw [decide_eq_false h1]; rfl)
    go_enter Try.func67, Try.ntmps67
    go_wp2
    go_ret
    exact ⟨ret_bool H.out, (by repeat (first | exact Ext.refl _ | assumption | apply Ext.alloc | apply Ext.drew | (refine Ext.trans ?_ (by assumption)) | (refine Ext.setNew ?_ (by simp <;> omega) _)))⟩

theorem isWithinm_any (n d : Int) (w : World) : Calls Try.prog 67 #[Pt n d, .int .i64 (-1)] w fun e w' => e = .returned (.bool (raB n d (-1))) ∧ Ext w w' := by
  by_cases h1 : 1 ≤ d
  · by_cases h2 : d ≤ 100000000000000
    · have H := Lib.hid (show raB n d (-1) = (decide (-d ≤ n) && decide (n ≤ d)) by unfold raB; rw [decide_eq_true h1, decide_eq_true h2, show (-1) * d = -d by omega]; rfl)
      by_cases h3 : -d ≤ n
      · rw [decide_eq_true h3] at H
        go_enter Try.func67, Try.ntmps67
        go_wp2
        all_goals
          go_ret
          exact ⟨ret_bool (by first | exact H.out | (rw [H.out]; simp; omega) | (rw [H.out]; simp)), (by repeat (first | exact Ext.refl _ | assumption | apply Ext.alloc | apply Ext.drew | (refine Ext.trans ?_ (by assumption)) | (refine Ext.setNew ?_ (by simp <;> omega) _)))⟩
      · rw [decide_eq_false h3] at H
        go_enter Try.func67, Try.ntmps67
        go_wp2
        all_goals
          go_ret
          exact ⟨ret_bool (by first | exact H.out | (rw [H.out]; simp; omega) | (rw [H.out]; simp)), (by repeat (first | exact Ext.refl _ | assumption | apply Ext.alloc | apply Ext.drew | (refine Ext.trans ?_ (by assumption)) | (refine Ext.setNew ?_ (by simp <;> omega) _)))⟩
    · have H := Lib.hid (show raB n d (-1) = false by unfold raB; rw [decide_eq_true h1, decide_eq_false h2]; rfl)
      go_enter Try.func67, Try.ntmps67
      go_wp2
      go_ret
      exact ⟨ret_bool H.out, (by repeat (first | exact Ext.refl _ | assumption | apply Ext.alloc | apply Ext.drew | (refine Ext.trans ?_ (by assumption)) | (refine Ext.setNew ?_ (by simp <;> omega) _)))⟩
  · have H := Lib.hid (show raB n d (-1) = false by unfold raB; rw [decide_eq_false h1]; rfl)
    go_enter Try.func67, Try.ntmps67
    go_wp2
    go_ret
    exact ⟨ret_bool H.out, (by repeat (first | exact Ext.refl _ | assumption | apply Ext.alloc | apply Ext.drew | (refine Ext.trans ?_ (by assumption)) | (refine Ext.setNew ?_ (by simp <;> omega) _)))⟩

end Go.Proofs.Ytookaodccmlkoaa.Cmp

/- Contracts of the greatest common divisor and of ratios in lowest terms (impl, spec). -/
namespace Go.Proofs.Ytookaodccmlkoaa.Gcd
open Go.ChangeShapes Go.WideShapes Go.ChangeAt Go.RowKit
open Go.Proofs.Ytookaodccmlkoaa.Num Go.Proofs.Ytookaodccmlkoaa.Kit Go.Proofs.Ytookaodccmlkoaa.Pts Go.Proofs.Ytookaodccmlkoaa.Seg
set_option linter.unusedVariables false
set_option linter.unusedSimpArgs false

/-- The greatest common divisor. -/
def gc (a b : Int) : Int := (Nat.gcd a.toNat b.toNat : Nat)
theorem gc_zero {a : Int} (h : 0 ≤ a) : gc a 0 = a := by unfold gc; simp; omega
theorem gc_step {a b : Int} (ha : 0 ≤ a) (hb : 0 < b) : gc b (a % b) = gc a b := by
  unfold gc
  have e : (a % b).toNat = a.toNat % b.toNat := by
    rw [Int.toNat_emod ha (by omega)]
  rw [e, Nat.gcd_comm a.toNat b.toNat, Nat.gcd_rec b.toNat a.toNat, Nat.gcd_comm]
theorem gc_pos {a b : Int} (hb : 1 ≤ b) : 1 ≤ gc a b := by
  unfold gc
  have := Nat.gcd_pos_of_pos_right a.toNat (n := b.toNat) (by omega)
  omega
theorem div_bd {a g : Int} (ha : 0 ≤ a) (hg : 1 ≤ g) : 0 ≤ a / g ∧ a / g ≤ a := ⟨Int.ediv_nonneg ha (by omega), Int.ediv_le_self _ ha⟩

def RelG (w : World) (g M : Int) (s t : Value) (wr : World) : Prop := (∃ a b : Int, 0 ≤ a ∧ a ≤ M ∧ 0 ≤ b ∧ b ≤ M ∧ gc a b = g ∧ s = .int .i64 a ∧ t = .int .i64 b) ∧ Ext w wr

theorem commonDivisor_any (a b : Int) (w : World) (ha : 0 ≤ a) (ha2 : a ≤ 1000000000000000000) (hb : 0 ≤ b) (hb2 : b ≤ 1000000000000000000) :
    Calls Try.prog 129 #[.int .i64 a, .int .i64 b] w fun e w' => e = .returned (.int .i64 (gc a b)) ∧ Ext w w' := by
  go_enter Try.func129, Try.ntmps129
  go_wp2
  go_loopw [0, 1] (fun s t wr => RelG w (gc a b) 1000000000000000000 s t wr) (fun s t _ => (intOf t).toNat)
  case atStart => exact ⟨⟨a, b, ha, ha2, hb, hb2, rfl, rfl, rfl⟩, Ext.refl _⟩
  case round =>
    clear ha ha2 hb hb2
    obtain ⟨⟨x, y, x0, x1, y0, y1, hg, rfl, rfl⟩, hx⟩ := hrel
    by_cases hy : y = 0
    · subst hy
      have H := Lib.hid (hg.symm.trans (gc_zero x0))
      clear hg
      go_wp2
      go_ret
      exact ⟨ret_int H.out, hx⟩
    · have hy1 : (y == 0) = false := beq_eq_false_iff_ne.2 hy
      have hyp : 0 < y := by omega
      have m0 := Int.emod_nonneg x hy
      have m1 := Int.emod_lt_of_pos x hyp
      have HG := Lib.hid ((gc_step x0 hyp).trans hg)
      clear hg
      go_wp2_with fail
      go_quiet (fail)
      go_wp2
      go_roundw
      case rel => exact ⟨⟨y, x % y, by omega, by omega, by omega, by omega, HG.out, rfl, rfl⟩, hx.drewN _⟩
      case measure => simp [intOf]; omega

theorem gcdS_any (a b : Int) (w : World) (ha : 0 ≤ a) (ha2 : a ≤ 1000000000000000000) (hb : 0 ≤ b) (hb2 : b ≤ 1000000000000000000) :
    Calls Try.prog 134 #[.int .i64 a, .int .i64 b] w fun e w' => e = .returned (.int .i64 (gc a b)) ∧ Ext w w' := by
  go_enter Try.func134, Try.ntmps134
  go_wp2
  go_loopw [0, 1] (fun s t wr => RelG w (gc a b) 1000000000000000000 s t wr) (fun s t _ => (intOf t).toNat)
  case atStart => exact ⟨⟨a, b, ha, ha2, hb, hb2, rfl, rfl, rfl⟩, Ext.refl _⟩
  case round =>
    clear ha ha2 hb hb2
    obtain ⟨⟨x, y, x0, x1, y0, y1, hg, rfl, rfl⟩, hx⟩ := hrel
    by_cases hy : y = 0
    · subst hy
      have H := Lib.hid (hg.symm.trans (gc_zero x0))
      clear hg
      go_wp2
      go_ret
      exact ⟨ret_int H.out, hx⟩
    · have hyp : 0 < y := by omega
      have m0 := Int.emod_nonneg x hy
      have m1 := Int.emod_lt_of_pos x hyp
      have HG := Lib.hid ((gc_step x0 hyp).trans hg)
      clear hg hy
      go_wp2
      go_roundw
      case rel => exact ⟨⟨y, x % y, by omega, by omega, by omega, by omega, HG.out, rfl, rfl⟩, hx⟩
      case measure => simp [intOf]; omega

/-- The absolute value. -/
def ab (n : Int) : Int := if n < 0 then -n else n
theorem absolute_any (n : Int) (w : World) (h1 : -1000000000000000000 ≤ n) (h2 : n ≤ 1000000000000000000) :
    Calls Try.prog 128 #[.int .i64 n] w fun e w' => e = .returned (.int .i64 (ab n)) ∧ w = w' := by
  by_cases h : n < 0
  · have H := Lib.hid (show ab n = -n from if_pos h)
    go_enter Try.func128, Try.ntmps128
    go_wp2
    go_ret
    exact ⟨ret_int H.out, rfl⟩
  · have H := Lib.hid (show ab n = n from if_neg h)
    go_enter Try.func128, Try.ntmps128
    go_wp2
    go_ret
    exact ⟨ret_int H.out, rfl⟩
theorem absS_any (n : Int) (w : World) (h1 : -1000000000000000000 ≤ n) (h2 : n ≤ 1000000000000000000) :
    Calls Try.prog 135 #[.int .i64 n] w fun e w' => e = .returned (.int .i64 (ab n)) ∧ w = w' := by
  by_cases h : n < 0
  · have H := Lib.hid (show ab n = -n from if_pos h)
    go_enter Try.func135, Try.ntmps135
    go_wp2
    go_ret
    exact ⟨ret_int H.out, rfl⟩
  · have H := Lib.hid (show ab n = n from if_neg h)
    go_enter Try.func135, Try.ntmps135
    go_wp2
    go_ret
    exact ⟨ret_int H.out, rfl⟩

theorem lowestTerms_any (n d : Int) (w : World) (hn : 0 ≤ n) (hn2 : n ≤ 1000000000000000000) (hd : 1 ≤ d) (hd2 : d ≤ 1000000000000000000) :
    Calls Try.prog 112 #[.int .i64 n, .int .i64 d] w fun e w' => e = .returned (Pt (n / gc n d) (d / gc n d)) ∧ Ext w w' := by
  have hg := gc_pos (a := n) hd
  obtain ⟨g1, g2⟩ := div_bd hn hg
  obtain ⟨g3, g4⟩ := div_bd (show 0 ≤ d by omega) hg
  go_enter Try.func112, Try.ntmps112
  go_wp2_with fail
  refine (commonDivisor_any _ _ _ hn hn2 (by omega) hd2).mono ?_
  rintro e w1 ⟨rfl, hx⟩
  have B := Lib.hid ((Box.new2 (w := w) (n := w.heap.size) (x := .int .i64 0) (y := .int .i64 0) (t := 37) rfl).ext hx)
  obtain ⟨⟨c0, c1⟩, f0, f1⟩ := B.out.two
  go_wp2
  go_region
  go_wp2
  obtain ⟨⟨b0, b1⟩, _, _⟩ := ((B.out.set2 (u := .int .i64 (n / gc n d)) (v := .int .i64 (d / gc n d))).drew).two
  exact bodyPost_ret (v := Pt (n / gc n d) (d / gc n d)) (by simp [results, Try.results112, go_sem, b0, b1]) rfl ⟨rfl, (by repeat (first | exact Ext.refl _ | assumption | apply Ext.alloc | apply Ext.drew | (refine Ext.trans ?_ (by assumption)) | (refine Ext.setNew ?_ (by simp <;> omega) _)))⟩

theorem ratioS_any (n d : Int) (w : World) (hn : 0 ≤ n) (hn2 : n ≤ 1000000000000000000) (hd : 1 ≤ d) (hd2 : d ≤ 1000000000000000000) :
    Calls Try.prog 127 #[.int .i64 n, .int .i64 d] w fun e w' => e = .returned (Pt (n / gc n d) (d / gc n d)) ∧ Ext w w' := by
  have hg := gc_pos (a := n) hd
  obtain ⟨g1, g2⟩ := div_bd hn hg
  obtain ⟨g3, g4⟩ := div_bd (show 0 ≤ d by omega) hg
  have ha : ab n = n := if_neg (by omega)
  go_enter Try.func127, Try.ntmps127
  go_wp2_with fail
  refine (absS_any _ _ (by omega) (by omega)).mono ?_
  rintro e w1 ⟨rfl, rfl⟩
  rw [ha]
  go_wp2_with fail
  refine (gcdS_any _ _ _ hn hn2 (by omega) hd2).mono ?_
  rintro e w1 ⟨rfl, hx⟩
  have B := Lib.hid ((Box.new2 (w := w) (n := w.heap.size) (x := .int .i64 0) (y := .int .i64 0) (t := 37) rfl).ext hx)
  obtain ⟨⟨c0, c1⟩, f0, f1⟩ := B.out.two
  go_wp2
  go_region
  go_wp2
  obtain ⟨⟨b0, b1⟩, _, _⟩ := ((B.out.set2 (u := .int .i64 (n / gc n d)) (v := .int .i64 (d / gc n d))).drew).two
  exact bodyPost_ret (v := Pt (n / gc n d) (d / gc n d)) (by simp [results, Try.results127, go_sem, b0, b1]) rfl ⟨rfl, (by repeat (first | exact Ext.refl _ | assumption | apply Ext.alloc | apply Ext.drew | (refine Ext.trans ?_ (by assumption)) | (refine Ext.setNew ?_ (by simp <;> omega) _)))⟩

end Go.Proofs.Ytookaodccmlkoaa.Gcd

/- Contracts of CompareRatios (impl, spec), for all ratios. -/
namespace Go.Proofs.Ytookaodccmlkoaa.Cmp
open Go.ChangeShapes Go.WideShapes Go.ChangeAt Go.RowKit
open Go.Proofs.Ytookaodccmlkoaa.Num Go.Proofs.Ytookaodccmlkoaa.Kit Go.Proofs.Ytookaodccmlkoaa.Pts
set_option linter.unusedVariables false
set_option linter.unusedSimpArgs false

theorem compareProducts_int (a b c d : Int) (w : World) (a0 : 0 ≤ a) (ha : a ≤ 1000000000000000000) (b0 : 0 ≤ b) (hb : b ≤ 1000000000000000000) (c0 : 0 ≤ c) (hc : c ≤ 1000000000000000000) (d0 : 0 ≤ d) (hd : d ≤ 1000000000000000000) :
    Calls Try.prog 97 #[.int .i64 a, .int .i64 b, .int .i64 c, .int .i64 d] w fun e w' => e = .returned (.int .i64 (cmpZ (a * b) (c * d))) ∧ Ext w w' := by
  obtain ⟨a, rfl⟩ := Int.eq_ofNat_of_zero_le a0
  obtain ⟨b, rfl⟩ := Int.eq_ofNat_of_zero_le b0
  obtain ⟨c, rfl⟩ := Int.eq_ofNat_of_zero_le c0
  obtain ⟨d, rfl⟩ := Int.eq_ofNat_of_zero_le d0
  exact compareProducts_any a b c d w (by omega) (by omega) (by omega) (by omega)

/-- What both CompareRatios answer. -/
def crQ (x y u v : Int) : Int := if raB x y (-1) = true ∧ raB u v (-1) = true then cmpZ (x * v) (u * y) else 0
def crC (x y u v : Int) : Int := if raB x y (-1) = true ∧ raB u v (-1) = true then 0 else 2
theorem cr_shift (x y u v : Int) : cmpZ ((x + y) * v) ((u + v) * y) = cmpZ (x * v) (u * y) := cmpZ_shift (by grind)

end Go.Proofs.Ytookaodccmlkoaa.Cmp

/- Words on a result's box of three and of five cells, of no program. -/
namespace Go.Proofs.Ytookaodccmlkoaa.Kit
open Go.ChangeShapes Go.WideShapes Go.ChangeAt Go.RowKit

theorem Res.three {W : World} {n : Nat} {a : World} (h : Res W n 3 a) : ∃ x y z, Box a n [x, y, z] := by
  obtain ⟨x, c0, f0⟩ := h.2.2 0 (by omega)
  obtain ⟨y, c1, f1⟩ := h.2.2 1 (by omega)
  obtain ⟨z, c2, f2⟩ := h.2.2 2 (by omega)
  refine ⟨x, y, z, fun i v hv => ?_⟩
  match i, hv with
  | 0, hv => simp at hv; subst hv; exact ⟨c0, f0⟩
  | 1, hv => simp at hv; subst hv; exact ⟨c1, f1⟩
  | 2, hv => simp at hv; subst hv; exact ⟨c2, f2⟩
theorem Res.five {W : World} {n : Nat} {a : World} (h : Res W n 5 a) : ∃ x y z u r, Box a n [x, y, z, u, r] := by
  obtain ⟨x, c0, f0⟩ := h.2.2 0 (by omega)
  obtain ⟨y, c1, f1⟩ := h.2.2 1 (by omega)
  obtain ⟨z, c2, f2⟩ := h.2.2 2 (by omega)
  obtain ⟨u, c3, f3⟩ := h.2.2 3 (by omega)
  obtain ⟨r, c4, f4⟩ := h.2.2 4 (by omega)
  refine ⟨x, y, z, u, r, fun i v hv => ?_⟩
  match i, hv with
  | 0, hv => simp at hv; subst hv; exact ⟨c0, f0⟩
  | 1, hv => simp at hv; subst hv; exact ⟨c1, f1⟩
  | 2, hv => simp at hv; subst hv; exact ⟨c2, f2⟩
  | 3, hv => simp at hv; subst hv; exact ⟨c3, f3⟩
  | 4, hv => simp at hv; subst hv; exact ⟨c4, f4⟩
theorem Res.new3 {W : World} {x y z : Value} {t : TypeId} : Res W W.heap.size 3 (W.alloc (.cells #[x, y, z] t)) := Res.new rfl 3 rfl
theorem Res.new5 {W : World} {x y z u r : Value} {t : TypeId} : Res W W.heap.size 5 (W.alloc (.cells #[x, y, z, u, r] t)) := Res.new rfl 5 rfl
theorem Box.new5 {w : World} {x y z u r : Value} {t : TypeId} {n : Nat} (hn : w.heap.size = n) : Box (w.alloc (.cells #[x, y, z, u, r] t)) n [x, y, z, u, r] := Box.new hn
theorem Box.three' {w : World} {n : Nat} {x y z : Value} (h : Box w n [x, y, z]) : (w.cell? ⟨n, 0, none⟩ = some x ∧ w.cell? ⟨n, 1, none⟩ = some y ∧ w.cell? ⟨n, 2, none⟩ = some z) ∧ w.frozen? ⟨n, 0, none⟩ = false ∧ w.frozen? ⟨n, 1, none⟩ = false ∧ w.frozen? ⟨n, 2, none⟩ = false :=
  ⟨⟨(h 0 x rfl).1, (h 1 y rfl).1, (h 2 z rfl).1⟩, (h 0 x rfl).2, (h 1 y rfl).2, (h 2 z rfl).2⟩
theorem Box.five {w : World} {n : Nat} {x y z u r : Value} (h : Box w n [x, y, z, u, r]) : (w.cell? ⟨n, 0, none⟩ = some x ∧ w.cell? ⟨n, 1, none⟩ = some y ∧ w.cell? ⟨n, 2, none⟩ = some z ∧ w.cell? ⟨n, 3, none⟩ = some u ∧ w.cell? ⟨n, 4, none⟩ = some r) ∧
    w.frozen? ⟨n, 0, none⟩ = false ∧ w.frozen? ⟨n, 1, none⟩ = false ∧ w.frozen? ⟨n, 2, none⟩ = false ∧ w.frozen? ⟨n, 3, none⟩ = false ∧ w.frozen? ⟨n, 4, none⟩ = false :=
  ⟨⟨(h 0 x rfl).1, (h 1 y rfl).1, (h 2 z rfl).1, (h 3 u rfl).1, (h 4 r rfl).1⟩, (h 0 x rfl).2, (h 1 y rfl).2, (h 2 z rfl).2, (h 3 u rfl).2, (h 4 r rfl).2⟩
theorem Box.set3 {w : World} {n : Nat} {x y z a b c : Value} (h : Box w n [x, y, z]) : Box (((w.setCell ⟨n, 0, none⟩ a).setCell ⟨n, 1, none⟩ b).setCell ⟨n, 2, none⟩ c) n [a, b, c] :=
  ((h.set 0 (by simp) a).set 1 (by simp) b).set 2 (by simp) c
theorem Box.set5 {w : World} {n : Nat} {x y z u r a b c d e : Value} (h : Box w n [x, y, z, u, r]) : Box (((((w.setCell ⟨n, 0, none⟩ a).setCell ⟨n, 1, none⟩ b).setCell ⟨n, 2, none⟩ c).setCell ⟨n, 3, none⟩ d).setCell ⟨n, 4, none⟩ e) n [a, b, c, d, e] :=
  ((((h.set 0 (by simp) a).set 1 (by simp) b).set 2 (by simp) c).set 3 (by simp) d).set 4 (by simp) e

end Go.Proofs.Ytookaodccmlkoaa.Kit

/- Lines of chapter 4: contracts of IsLine and BeforeLine (impl, spec), and of the laws' conversion. -/
namespace Go.Proofs.Ytookaodccmlkoaa.Crs
open Go.ChangeShapes Go.WideShapes Go.ChangeAt Go.RowKit
open Go.Proofs.Ytookaodccmlkoaa.Num Go.Proofs.Ytookaodccmlkoaa.Kit Go.Proofs.Ytookaodccmlkoaa.Pts Go.Proofs.Ytookaodccmlkoaa.Seg
set_option linter.unusedVariables false

theorem lineValid_any (a b c d : Int) (w : World) : Calls Try.prog 43 #[Sg a b c d] w fun e w' => e = .returned (.bool (sgB a b c d)) ∧ Ext w w' := by
  go_enter Try.func43, Try.ntmps43
  go_wp2_with (go_at_call 66; refine (sgValid_any _ _ _ _ _).mono ?_; rintro e w1 ⟨rfl, hx⟩)
  go_ret
  exact ⟨rfl, (by repeat (first | exact Ext.refl _ | assumption | apply Ext.alloc | apply Ext.drew | (refine Ext.trans ?_ (by assumption)) | (refine Ext.setNew ?_ (by simp <;> omega) _)))⟩

theorem isLine_spec (a b c d : Int) (w : World) : Calls Try.prog 46 #[Sg a b c d] w fun e w' => e = .returned (.bool (sgB a b c d)) ∧ Ext w w' := by
  cases h1 : ptB a b
  · have H := Lib.hid (show sgB a b c d = false by unfold sgB; rw [h1]; rfl)
    go_enter Try.func46, Try.ntmps46
    go_wp2_with (go_at_call 47; refine (isPoint_spec _ _ _).mono ?_; rintro e w1 ⟨rfl, hx⟩; obtain ⟨hc, hf⟩ := hx.facts; have hz := hx.size; (try simp at hz); (try (have hz0 : w.heap.size < w1.heap.size := by omega)); (try (have hz1 : w.heap.size + 1 < w1.heap.size := by omega)); (try (have hz2 : w.heap.size + 1 + 1 < w1.heap.size := by omega)); (try (have hz3 : w.heap.size + 1 + 1 + 1 < w1.heap.size := by omega)))
    go_ret
    exact ⟨ret_bool H.out, (by repeat (first | exact Ext.refl _ | assumption | apply Ext.alloc | apply Ext.drew | (refine Ext.trans ?_ (by assumption)) | (refine Ext.setNew ?_ (by simp <;> omega) _)))⟩
  cases h2 : ptB c d
  · have H := Lib.hid (show sgB a b c d = false by unfold sgB; rw [h1, h2]; rfl)
    go_enter Try.func46, Try.ntmps46
    go_wp2_with (go_at_call 47; refine (isPoint_spec _ _ _).mono ?_; rintro e w1 ⟨rfl, hx⟩; obtain ⟨hc, hf⟩ := hx.facts; have hz := hx.size; (try simp at hz); (try (have hz0 : w.heap.size < w1.heap.size := by omega)); (try (have hz1 : w.heap.size + 1 < w1.heap.size := by omega)); (try (have hz2 : w.heap.size + 1 + 1 < w1.heap.size := by omega)); (try (have hz3 : w.heap.size + 1 + 1 + 1 < w1.heap.size := by omega)))
    go_ret
    exact ⟨ret_bool H.out, (by repeat (first | exact Ext.refl _ | assumption | apply Ext.alloc | apply Ext.drew | (refine Ext.trans ?_ (by assumption)) | (refine Ext.setNew ?_ (by simp <;> omega) _)))⟩
  · have H := Lib.hid (show sgB a b c d = !(a == c && b == d) by unfold sgB; rw [h1, h2]; rfl)
    cases h3 : (a == c)
    · rw [h3] at H
      go_enter Try.func46, Try.ntmps46
      go_wp2_with (go_at_call 47; refine (isPoint_spec _ _ _).mono ?_; rintro e w1 ⟨rfl, hx⟩; obtain ⟨hc, hf⟩ := hx.facts; have hz := hx.size; (try simp at hz); (try (have hz0 : w.heap.size < w1.heap.size := by omega)); (try (have hz1 : w.heap.size + 1 < w1.heap.size := by omega)); (try (have hz2 : w.heap.size + 1 + 1 < w1.heap.size := by omega)); (try (have hz3 : w.heap.size + 1 + 1 + 1 < w1.heap.size := by omega)))
      go_ret
      exact ⟨ret_bool H.out, (by repeat (first | exact Ext.refl _ | assumption | apply Ext.alloc | apply Ext.drew | (refine Ext.trans ?_ (by assumption)) | (refine Ext.setNew ?_ (by simp <;> omega) _)))⟩
    · rw [h3] at H
      cases h4 : (b == d)
      · rw [h4] at H
        go_enter Try.func46, Try.ntmps46
        go_wp2_with (go_at_call 47; refine (isPoint_spec _ _ _).mono ?_; rintro e w1 ⟨rfl, hx⟩; obtain ⟨hc, hf⟩ := hx.facts; have hz := hx.size; (try simp at hz); (try (have hz0 : w.heap.size < w1.heap.size := by omega)); (try (have hz1 : w.heap.size + 1 < w1.heap.size := by omega)); (try (have hz2 : w.heap.size + 1 + 1 < w1.heap.size := by omega)); (try (have hz3 : w.heap.size + 1 + 1 + 1 < w1.heap.size := by omega)))
        go_ret
        exact ⟨ret_bool H.out, (by repeat (first | exact Ext.refl _ | assumption | apply Ext.alloc | apply Ext.drew | (refine Ext.trans ?_ (by assumption)) | (refine Ext.setNew ?_ (by simp <;> omega) _)))⟩
      · rw [h4] at H
        go_enter Try.func46, Try.ntmps46
        go_wp2_with (go_at_call 47; refine (isPoint_spec _ _ _).mono ?_; rintro e w1 ⟨rfl, hx⟩; obtain ⟨hc, hf⟩ := hx.facts; have hz := hx.size; (try simp at hz); (try (have hz0 : w.heap.size < w1.heap.size := by omega)); (try (have hz1 : w.heap.size + 1 < w1.heap.size := by omega)); (try (have hz2 : w.heap.size + 1 + 1 < w1.heap.size := by omega)); (try (have hz3 : w.heap.size + 1 + 1 + 1 < w1.heap.size := by omega)))
        go_ret
        exact ⟨ret_bool H.out, (by repeat (first | exact Ext.refl _ | assumption | apply Ext.alloc | apply Ext.drew | (refine Ext.trans ?_ (by assumption)) | (refine Ext.setNew ?_ (by simp <;> omega) _)))⟩

/-! ### laws -/
/-- On which side of a line a point is, and the code. -/
def blQ (a b c d p q : Int) : Int := if sgB a b c d = true ∧ ptB p q = true then trn a b c d p q else 0
def blC (a b c d p q : Int) : Int := if sgB a b c d = true ∧ ptB p q = true then 0 else 1

theorem beforeLine_impl (a b c d p q : Int) (w : World) : Calls Try.prog 13 #[Sg a b c d, Pt p q] w fun e w' => e = .returned (.tuple #[.int .i64 (blQ a b c d p q), .int .i64 (blC a b c d p q)]) ∧ Ext w w' := by
  cases h1 : sgB a b c d
  · have HQ := Lib.hid (show blQ a b c d p q = 0 by unfold blQ; rw [if_neg (by simp [h1])])
    have HC := Lib.hid (show blC a b c d p q = 1 by unfold blC; rw [if_neg (by simp [h1])])
    go_enter Try.func13, Try.ntmps13
    go_wp2_with (go_at_call 43; refine (lineValid_any _ _ _ _ _).mono ?_; rintro e w1 ⟨rfl, hx⟩; obtain ⟨hc, hf⟩ := hx.facts; have hz := hx.size; (try simp at hz); (try (have hz0 : w.heap.size < w1.heap.size := by omega)); (try (have hz1 : w.heap.size + 1 < w1.heap.size := by omega)); (try (have hz2 : w.heap.size + 1 + 1 < w1.heap.size := by omega)); (try (have hz3 : w.heap.size + 1 + 1 + 1 < w1.heap.size := by omega)))
    go_ret2
    exact ⟨ret_int2 HQ.out HC.out, (by repeat (first | exact Ext.refl _ | assumption | apply Ext.alloc | apply Ext.drew | (refine Ext.trans ?_ (by assumption)) | (refine Ext.setNew ?_ (by simp <;> omega) _)))⟩
  cases h2 : ptB p q
  · have HQ := Lib.hid (show blQ a b c d p q = 0 by unfold blQ; rw [if_neg (by simp [h2])])
    have HC := Lib.hid (show blC a b c d p q = 1 by unfold blC; rw [if_neg (by simp [h2])])
    go_enter Try.func13, Try.ntmps13
    go_wp2_with (first | (go_at_call 43; refine (lineValid_any _ _ _ _ _).mono ?_; rintro e w1 ⟨rfl, hx⟩; obtain ⟨hc, hf⟩ := hx.facts; have hz := hx.size; (try simp at hz); (try (have hz0 : w.heap.size < w1.heap.size := by omega)); (try (have hz1 : w.heap.size + 1 < w1.heap.size := by omega)); (try (have hz2 : w.heap.size + 1 + 1 < w1.heap.size := by omega)); (try (have hz3 : w.heap.size + 1 + 1 + 1 < w1.heap.size := by omega))) | (go_at_call 44; refine (isValid_any _ _ _).mono ?_; rintro e w1 ⟨rfl, hx⟩; obtain ⟨hc, hf⟩ := hx.facts; have hz := hx.size; (try simp at hz); (try (have hz0 : w.heap.size < w1.heap.size := by omega)); (try (have hz1 : w.heap.size + 1 < w1.heap.size := by omega)); (try (have hz2 : w.heap.size + 1 + 1 < w1.heap.size := by omega)); (try (have hz3 : w.heap.size + 1 + 1 + 1 < w1.heap.size := by omega))))
    go_ret2
    exact ⟨ret_int2 HQ.out HC.out, (by repeat (first | exact Ext.refl _ | assumption | apply Ext.alloc | apply Ext.drew | (refine Ext.trans ?_ (by assumption)) | (refine Ext.setNew ?_ (by simp <;> omega) _)))⟩
  · have HQ := Lib.hid (show blQ a b c d p q = sgn (crs a b c d p q) by unfold blQ; rw [if_pos ⟨h1, h2⟩]; rfl)
    have HC := Lib.hid (show blC a b c d p q = 0 by unfold blC; rw [if_pos ⟨h1, h2⟩])
    obtain ⟨⟨ga, gb, gc, gd⟩, _⟩ := sgB_yes h1
    obtain ⟨gp, gq⟩ := ptB_yes h2
    go_enter Try.func13, Try.ntmps13
    go_wp2_with (first | (go_at_call 43; refine (lineValid_any _ _ _ _ _).mono ?_; rintro e w1 ⟨rfl, hx⟩; obtain ⟨hc, hf⟩ := hx.facts; have hz := hx.size; (try simp at hz); (try (have hz0 : w.heap.size < w1.heap.size := by omega)); (try (have hz1 : w.heap.size + 1 < w1.heap.size := by omega)); (try (have hz2 : w.heap.size + 1 + 1 < w1.heap.size := by omega)); (try (have hz3 : w.heap.size + 1 + 1 + 1 < w1.heap.size := by omega))) | (go_at_call 44; refine (isValid_any _ _ _).mono ?_; rintro e w1 ⟨rfl, hx⟩; obtain ⟨hc, hf⟩ := hx.facts; have hz := hx.size; (try simp at hz); (try (have hz0 : w.heap.size < w1.heap.size := by omega)); (try (have hz1 : w.heap.size + 1 < w1.heap.size := by omega)); (try (have hz2 : w.heap.size + 1 + 1 < w1.heap.size := by omega)); (try (have hz3 : w.heap.size + 1 + 1 + 1 < w1.heap.size := by omega))) | (go_at_call 50; refine (turnTo_any _ _ _ _ _ _ _ ga gb gc gd gp gq).mono ?_; rintro e w1 ⟨rfl, hx⟩; obtain ⟨hc, hf⟩ := hx.facts; have hz := hx.size; (try simp at hz); (try (have hz0 : w.heap.size < w1.heap.size := by omega)); (try (have hz1 : w.heap.size + 1 < w1.heap.size := by omega)); (try (have hz2 : w.heap.size + 1 + 1 < w1.heap.size := by omega)); (try (have hz3 : w.heap.size + 1 + 1 + 1 < w1.heap.size := by omega))) | (go_at_call 49; refine (signOf_any _ _).mono ?_; rintro e w1 ⟨rfl, rfl⟩))
    go_ret2
    exact ⟨ret_int2 HQ.out HC.out, (by repeat (first | exact Ext.refl _ | assumption | apply Ext.alloc | apply Ext.drew | (refine Ext.trans ?_ (by assumption)) | (refine Ext.setNew ?_ (by simp <;> omega) _)))⟩

theorem before_spec (a b c d p q : Int) (w : World) (ha : Co a) (hb : Co b) (hc : Co c) (hd : Co d) (hp : Co p) (hq : Co q) :
    Calls Try.prog 117 #[Sg a b c d, Pt p q] w fun e w' => e = .returned (.int .i64 (trn a b c d p q)) ∧ Ext w w' := by
  go_enter Try.func117, Try.ntmps117
  go_wp2_with (go_at_call 87; refine (turn_any _ _ _ _ _ _ _ ha hb hc hd hp hq).mono ?_; rintro e w1 ⟨rfl, hx⟩)
  go_ret
  exact ⟨rfl, (by repeat (first | exact Ext.refl _ | assumption | apply Ext.alloc | apply Ext.drew | (refine Ext.trans ?_ (by assumption)) | (refine Ext.setNew ?_ (by simp <;> omega) _)))⟩

end Go.Proofs.Ytookaodccmlkoaa.Crs

/- Contracts of the relations of two segments of chapter 2 (impl and spec): crossing and meeting. -/
namespace Go.Proofs.Ytookaodccmlkoaa.Seg
open Go.ChangeShapes Go.WideShapes Go.ChangeAt Go.RowKit
open Go.Proofs.Ytookaodccmlkoaa.Num Go.Proofs.Ytookaodccmlkoaa.Kit Go.Proofs.Ytookaodccmlkoaa.Pts
set_option linter.unusedVariables false
set_option linter.unusedSimpArgs false

/-- The ends of the second segment lie strictly on different sides of the first. -/
def sepB (a b c d p q u v : Int) : Bool := decide (sgn (crs a b c d p q) * sgn (crs a b c d u v) < 0)
/-- The point lies on the segment. -/
def onB (a b c d p q : Int) : Bool := (crs a b c d p q == 0) && decide ((a - p) * (c - p) + (b - q) * (d - q) ≤ 0)

theorem sgn_bd (n : Int) : -1 ≤ sgn n ∧ sgn n ≤ 1 := by
  unfold sgn; rcases Int.lt_trichotomy n 0 with h | h | h
  · rw [if_pos h]; decide
  · subst h; decide
  · rw [if_neg (by omega : ¬ n < 0), if_pos h]; decide
theorem sgn0 (n : Int) : sgn n = 0 ↔ n = 0 := by
  unfold sgn; rcases Int.lt_trichotomy n 0 with h | h | h
  · rw [if_pos h]; omega
  · subst h; decide
  · rw [if_neg (by omega : ¬ n < 0), if_pos h]; omega

end Go.Proofs.Ytookaodccmlkoaa.Seg

/- Contracts of CrossingPlace (impl, spec), for all segments. -/
namespace Go.Proofs.Ytookaodccmlkoaa.Gcd
open Go.ChangeShapes Go.WideShapes Go.ChangeAt Go.RowKit
open Go.Proofs.Ytookaodccmlkoaa.Num Go.Proofs.Ytookaodccmlkoaa.Kit Go.Proofs.Ytookaodccmlkoaa.Pts Go.Proofs.Ytookaodccmlkoaa.Seg
set_option linter.unusedVariables false
set_option linter.unusedSimpArgs false

theorem crs_bd {a b c d p q : Int} (ha : Co a) (hb : Co b) (hc : Co c) (hd : Co d) (hp : Co p) (hq : Co q) : -8000000000000 ≤ crs a b c d p q ∧ crs a b c d p q ≤ 8000000000000 := by
  obtain ⟨a1, a2⟩ := mul_bd (x := c - a) (y := q - b) 2000000 2000000 (by omega) (by omega)
  obtain ⟨b1, b2⟩ := mul_bd (x := d - b) (y := p - a) 2000000 2000000 (by omega) (by omega)
  simp only [Int.reduceMul, Int.reduceNeg] at a1 a2 b1 b2
  unfold crs; omega
theorem ab_bd {n M : Int} (h1 : -M ≤ n) (h2 : n ≤ M) : 0 ≤ ab n ∧ ab n ≤ M := by
  unfold ab; by_cases h : n < 0
  · rw [if_pos h]; omega
  · rw [if_neg h]; omega
theorem sgn_cases (n : Int) : (n < 0 ∧ sgn n = -1) ∨ (n = 0 ∧ sgn n = 0) ∨ (0 < n ∧ sgn n = 1) := by
  unfold sgn; rcases Int.lt_trichotomy n 0 with h | h | h
  · exact .inl ⟨h, by rw [if_pos h]⟩
  · subst h; exact .inr (.inl ⟨rfl, rfl⟩)
  · exact .inr (.inr ⟨h, by rw [if_neg (by omega : ¬ n < 0), if_pos h]⟩)

/-- The place of the crossing, from the turns of both ends: numerator, denominator, code. -/
def plN (A B : Int) : Int := if sgn A = sgn B then 0 else ab A / gc (ab A) (ab (A - B))
def plD (A B : Int) : Int := if sgn A = sgn B then 0 else ab (A - B) / gc (ab A) (ab (A - B))
def plC (A B : Int) : Int := if sgn A = sgn B then 4 else 0
/-- What both CrossingPlaces answer. -/
def cpN (a b c d p q u v : Int) : Int := if sgB a b c d = true ∧ sgB p q u v = true then plN (crs p q u v a b) (crs p q u v c d) else 0
def cpD (a b c d p q u v : Int) : Int := if sgB a b c d = true ∧ sgB p q u v = true then plD (crs p q u v a b) (crs p q u v c d) else 0
def cpC (a b c d p q u v : Int) : Int := if sgB a b c d = true ∧ sgB p q u v = true then plC (crs p q u v a b) (crs p q u v c d) else 1

theorem ret_pt_int {x y z x' y' z' : Int} (h : x' = x) (g : y' = y) (k : z' = z) : Ending.returned (.tuple #[Pt x y, .int .i64 z]) = .returned (.tuple #[Pt x' y', .int .i64 z']) := by rw [h, g, k]

/-- The end of a call that answers a pair of numbers in a box of its own, and a code. -/
theorem cp_done {n : Nat} {w F : World} {tmps : Array Value} {x y z : Int} {x' y' z' : Int} (B : Box F n [.int .i64 x, .int .i64 y]) (hC : Ext w F) (ha : tmps[4]? = some (.pointer (some ⟨n, 0, none⟩))) (hz : tmps[5]? = some (.int .i64 z)) (h : x' = x) (g : y' = y) (k : z' = z) :
    bodyPost Try.prog Try.f106 (fun e w' => e = .returned (.tuple #[Pt x' y', .int .i64 z']) ∧ Ext w w') Exit.ret ⟨tmps, []⟩ F := by
  obtain ⟨⟨g0, g1⟩, _⟩ := B.two
  subst h g k
  exact bodyPost_ret (v := .tuple #[Pt x' y', .int .i64 z']) (by simp [results, Try.results106, go_sem, ha, hz, g0, g1]) rfl ⟨rfl, hC⟩

theorem crossingPlace_impl (a b c d p q u v : Int) (w : World) :
    Calls Try.prog 106 #[Sg a b c d, Sg p q u v] w fun e w' => e = .returned (.tuple #[Pt (cpN a b c d p q u v) (cpD a b c d p q u v), .int .i64 (cpC a b c d p q u v)]) ∧ Ext w w' := by
  cases h1 : sgB a b c d
  · have HN := Lib.hid (show cpN a b c d p q u v = 0 from if_neg (by simp [h1]))
    have HD := Lib.hid (show cpD a b c d p q u v = 0 from if_neg (by simp [h1]))
    have HC := Lib.hid (show cpC a b c d p q u v = 1 from if_neg (by simp [h1]))
    obtain ⟨⟨i0, i1, i2, i3⟩, _⟩ := (((Box.new4 (w := w) (n := w.heap.size) (x := .int .i64 a) (y := .int .i64 b) (z := .int .i64 c) (u := .int .i64 d) (t := 59) rfl).alloc (.cells #[.int .i64 p, .int .i64 q, .int .i64 u, .int .i64 v] 59)).alloc (.cells #[.int .i64 0, .int .i64 0] 37)).four
    obtain ⟨⟨j0, j1, j2, j3⟩, _⟩ := ((Box.new4 (w := w.alloc (.cells #[.int .i64 a, .int .i64 b, .int .i64 c, .int .i64 d] 59)) (n := w.heap.size + 1) (x := .int .i64 p) (y := .int .i64 q) (z := .int .i64 u) (u := .int .i64 v) (t := 59) (by simp)).alloc (.cells #[.int .i64 0, .int .i64 0] 37)).four
    have B := Box.new2 (w := (w.alloc (.cells #[.int .i64 a, .int .i64 b, .int .i64 c, .int .i64 d] 59)).alloc (.cells #[.int .i64 p, .int .i64 q, .int .i64 u, .int .i64 v] 59)) (n := w.heap.size + 1 + 1) (x := .int .i64 0) (y := .int .i64 0) (t := 37) (by simp)
    obtain ⟨⟨b0, b1⟩, f0, f1⟩ := B.two
    replace B := Lib.hid B
    have hx := (((Ext.refl w).alloc (.cells #[.int .i64 a, .int .i64 b, .int .i64 c, .int .i64 d] 59)).alloc (.cells #[.int .i64 p, .int .i64 q, .int .i64 u, .int .i64 v] 59)).alloc (.cells #[.int .i64 0, .int .i64 0] 37)
    go_enter Try.func106, Try.ntmps106
    go_wp2_with (go_at_call 66; refine (sgValid_any _ _ _ _ _).mono ?_; rintro e w1 ⟨rfl, hy⟩; replace i0 := hy.cellOf i0; replace i1 := hy.cellOf i1; replace i2 := hy.cellOf i2; replace i3 := hy.cellOf i3; replace j0 := hy.cellOf j0; replace j1 := hy.cellOf j1; replace j2 := hy.cellOf j2; replace j3 := hy.cellOf j3; replace f0 := hy.thawOf b0 f0; replace f1 := hy.thawOf b1 f1; replace b0 := hy.cellOf b0; replace b1 := hy.cellOf b1; replace B := Lib.hid (B.out.ext hy); replace hx := hx.trans hy; clear hy)
    exact cp_done (n := w.heap.size + 1 + 1) (B.out.set2 (u := .int .i64 0) (v := .int .i64 0)) (by repeat (first | exact hx | (refine Ext.setNew ?_ (by simp; omega) _))) rfl rfl HN.out HD.out HC.out
  cases h2 : sgB p q u v
  · have HN := Lib.hid (show cpN a b c d p q u v = 0 from if_neg (by simp [h2]))
    have HD := Lib.hid (show cpD a b c d p q u v = 0 from if_neg (by simp [h2]))
    have HC := Lib.hid (show cpC a b c d p q u v = 1 from if_neg (by simp [h2]))
    obtain ⟨⟨i0, i1, i2, i3⟩, _⟩ := (((Box.new4 (w := w) (n := w.heap.size) (x := .int .i64 a) (y := .int .i64 b) (z := .int .i64 c) (u := .int .i64 d) (t := 59) rfl).alloc (.cells #[.int .i64 p, .int .i64 q, .int .i64 u, .int .i64 v] 59)).alloc (.cells #[.int .i64 0, .int .i64 0] 37)).four
    obtain ⟨⟨j0, j1, j2, j3⟩, _⟩ := ((Box.new4 (w := w.alloc (.cells #[.int .i64 a, .int .i64 b, .int .i64 c, .int .i64 d] 59)) (n := w.heap.size + 1) (x := .int .i64 p) (y := .int .i64 q) (z := .int .i64 u) (u := .int .i64 v) (t := 59) (by simp)).alloc (.cells #[.int .i64 0, .int .i64 0] 37)).four
    have B := Box.new2 (w := (w.alloc (.cells #[.int .i64 a, .int .i64 b, .int .i64 c, .int .i64 d] 59)).alloc (.cells #[.int .i64 p, .int .i64 q, .int .i64 u, .int .i64 v] 59)) (n := w.heap.size + 1 + 1) (x := .int .i64 0) (y := .int .i64 0) (t := 37) (by simp)
    obtain ⟨⟨b0, b1⟩, f0, f1⟩ := B.two
    replace B := Lib.hid B
    have hx := (((Ext.refl w).alloc (.cells #[.int .i64 a, .int .i64 b, .int .i64 c, .int .i64 d] 59)).alloc (.cells #[.int .i64 p, .int .i64 q, .int .i64 u, .int .i64 v] 59)).alloc (.cells #[.int .i64 0, .int .i64 0] 37)
    go_enter Try.func106, Try.ntmps106
    go_wp2_with (go_at_call 66; refine (sgValid_any _ _ _ _ _).mono ?_; rintro e w1 ⟨rfl, hy⟩; replace i0 := hy.cellOf i0; replace i1 := hy.cellOf i1; replace i2 := hy.cellOf i2; replace i3 := hy.cellOf i3; replace j0 := hy.cellOf j0; replace j1 := hy.cellOf j1; replace j2 := hy.cellOf j2; replace j3 := hy.cellOf j3; replace f0 := hy.thawOf b0 f0; replace f1 := hy.thawOf b1 f1; replace b0 := hy.cellOf b0; replace b1 := hy.cellOf b1; replace B := Lib.hid (B.out.ext hy); replace hx := hx.trans hy; clear hy)
    exact cp_done (n := w.heap.size + 1 + 1) (B.out.set2 (u := .int .i64 0) (v := .int .i64 0)) (by repeat (first | exact hx | (refine Ext.setNew ?_ (by simp; omega) _))) rfl rfl HN.out HD.out HC.out
  · have EN := show cpN a b c d p q u v = plN (crs p q u v a b) (crs p q u v c d) from if_pos ⟨h1, h2⟩
    have ED := show cpD a b c d p q u v = plD (crs p q u v a b) (crs p q u v c d) from if_pos ⟨h1, h2⟩
    have EC := show cpC a b c d p q u v = plC (crs p q u v a b) (crs p q u v c d) from if_pos ⟨h1, h2⟩
    obtain ⟨⟨ha, hb, hc, hd⟩, _⟩ := sgB_yes h1
    obtain ⟨⟨hp, hq, hu, hv⟩, _⟩ := sgB_yes h2
    obtain ⟨⟨i0, i1, i2, i3⟩, _⟩ := (((Box.new4 (w := w) (n := w.heap.size) (x := .int .i64 a) (y := .int .i64 b) (z := .int .i64 c) (u := .int .i64 d) (t := 59) rfl).alloc (.cells #[.int .i64 p, .int .i64 q, .int .i64 u, .int .i64 v] 59)).alloc (.cells #[.int .i64 0, .int .i64 0] 37)).four
    obtain ⟨⟨j0, j1, j2, j3⟩, _⟩ := ((Box.new4 (w := w.alloc (.cells #[.int .i64 a, .int .i64 b, .int .i64 c, .int .i64 d] 59)) (n := w.heap.size + 1) (x := .int .i64 p) (y := .int .i64 q) (z := .int .i64 u) (u := .int .i64 v) (t := 59) (by simp)).alloc (.cells #[.int .i64 0, .int .i64 0] 37)).four
    have B := Box.new2 (w := (w.alloc (.cells #[.int .i64 a, .int .i64 b, .int .i64 c, .int .i64 d] 59)).alloc (.cells #[.int .i64 p, .int .i64 q, .int .i64 u, .int .i64 v] 59)) (n := w.heap.size + 1 + 1) (x := .int .i64 0) (y := .int .i64 0) (t := 37) (by simp)
    obtain ⟨⟨b0, b1⟩, f0, f1⟩ := B.two
    replace B := Lib.hid B
    have hx := (((Ext.refl w).alloc (.cells #[.int .i64 a, .int .i64 b, .int .i64 c, .int .i64 d] 59)).alloc (.cells #[.int .i64 p, .int .i64 q, .int .i64 u, .int .i64 v] 59)).alloc (.cells #[.int .i64 0, .int .i64 0] 37)
    go_enter Try.func106, Try.ntmps106
    go_wp2_with (go_at_call 66; refine (sgValid_any _ _ _ _ _).mono ?_; rintro e w1 ⟨rfl, hy⟩; replace i0 := hy.cellOf i0; replace i1 := hy.cellOf i1; replace i2 := hy.cellOf i2; replace i3 := hy.cellOf i3; replace j0 := hy.cellOf j0; replace j1 := hy.cellOf j1; replace j2 := hy.cellOf j2; replace j3 := hy.cellOf j3; replace f0 := hy.thawOf b0 f0; replace f1 := hy.thawOf b1 f1; replace b0 := hy.cellOf b0; replace b1 := hy.cellOf b1; replace B := Lib.hid (B.out.ext hy); replace hx := hx.trans hy; clear hy)
    obtain ⟨A1, A2⟩ := crs_bd hp hq hu hv ha hb
    obtain ⟨C1, C2⟩ := crs_bd hp hq hu hv hc hd
    go_region_held3 (fun w' => w'.cell? ⟨w.heap.size, 0, none⟩ = some (.int .i64 a) ∧ w'.cell? ⟨w.heap.size, 1, none⟩ = some (.int .i64 b) ∧ w'.cell? ⟨w.heap.size, 2, none⟩ = some (.int .i64 c) ∧ w'.cell? ⟨w.heap.size, 3, none⟩ = some (.int .i64 d) ∧ w'.cell? ⟨w.heap.size + 1, 0, none⟩ = some (.int .i64 p) ∧ w'.cell? ⟨w.heap.size + 1, 1, none⟩ = some (.int .i64 q) ∧ w'.cell? ⟨w.heap.size + 1, 2, none⟩ = some (.int .i64 u) ∧ w'.cell? ⟨w.heap.size + 1, 3, none⟩ = some (.int .i64 v) ∧ Box w' (w.heap.size + 1 + 1) [.int .i64 0, .int .i64 0] ∧ Ext w w')
      (first | exact ⟨i0, i1, i2, i3, j0, j1, j2, j3, B.out.drew, hx.drew⟩ | (go_split_ands; (repeat' apply And.intro) <;> first | exact Ext.cellOf hy (by assumption) | exact Box.ext (by assumption) hy | exact Ext.trans (by assumption) hy))
      (first | (go_at_call 50; refine (turnTo_any _ _ _ _ _ _ _ (by omega) (by omega) (by omega) (by omega) (by omega) (by omega)).mono ?_; rintro e w1 ⟨rfl, hy⟩))
    clear i0 i1 i2 i3 j0 j1 j2 j3 b0 b1 f0 f1 B hx
    go_split_ands
    rename_i hb0 hx
    have B := Lib.hid hb0
    obtain ⟨⟨b0, b1⟩, f0, f1⟩ := hb0.two
    clear hb0
    generalize hA : crs p q u v a b = A at *
    generalize hC : crs p q u v c d = C at *
    by_cases hs : sgn A = sgn C
    · have hs1 : (sgn A == sgn C) = true := beq_iff_eq.2 hs
      have HN := Lib.hid (EN.trans (if_pos hs))
      have HD := Lib.hid (ED.trans (if_pos hs))
      have HC := Lib.hid (EC.trans (if_pos hs))
      clear hs EN ED EC
      go_wp2_with (go_at_call 49; refine (signOf_any _ _).mono ?_; rintro e w1 ⟨rfl, rfl⟩)
      exact cp_done (n := w.heap.size + 1 + 1) (B.out.set2 (u := .int .i64 0) (v := .int .i64 0)) (by repeat (first | exact hx | (refine Ext.setNew ?_ (by simp; omega) _))) rfl rfl HN.out HD.out HC.out
    · have hs1 : (sgn A == sgn C) = false := beq_eq_false_iff_ne.2 hs
      have HN := Lib.hid (EN.trans (if_neg hs))
      have HD := Lib.hid (ED.trans (if_neg hs))
      have HC := Lib.hid (EC.trans (if_neg hs))
      obtain ⟨n1, n2⟩ := ab_bd (n := A) (M := 8000000000000) (by omega) (by omega)
      obtain ⟨d1, d2⟩ := ab_bd (n := A - C) (M := 16000000000000) (by omega) (by omega)
      have d3 : 1 ≤ ab (A - C) := by
        unfold ab; by_cases h : A - C < 0
        · rw [if_pos h]; omega
        · rw [if_neg h]
          have : ¬ A = C := fun h => hs (by rw [h])
          omega
      clear hs EN ED EC
      go_wp2_with (first | (go_at_call 49; refine (signOf_any _ _).mono ?_; rintro e w1 ⟨rfl, rfl⟩) | (go_at_call 128; refine (absolute_any _ _ (by omega) (by omega)).mono ?_; rintro e w1 ⟨rfl, rfl⟩) | (go_at_call 112; refine (lowestTerms_any _ _ _ (by omega) (by omega) (by omega) (by omega)).mono ?_; rintro e w1 ⟨rfl, hy⟩; replace f0 := hy.thawOf b0 f0; replace f1 := hy.thawOf b1 f1; replace b0 := hy.cellOf b0; replace b1 := hy.cellOf b1; replace B := Lib.hid (B.out.ext hy); replace hx := hx.trans hy; clear hy))
      exact cp_done (n := w.heap.size + 1 + 1) B.out.set2 (by repeat (first | exact hx | (refine Ext.setNew ?_ (by simp; omega) _))) rfl rfl HN.out HD.out HC.out

end Go.Proofs.Ytookaodccmlkoaa.Gcd
