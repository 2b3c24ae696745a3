import Derived.Test.YtmlojndkpnhalaaGreatNum
import Derived.Test.YtmlojndkpnhalaaGreatMKit
import Derived.Deep.QuietTactic
import Derived.BigQuiet
import Derived.RegionTactic
import Derived.ChangeAlike
import Derived.Deep.LoopGhost
namespace Go.Proofs.YtmlojndkpnhalaaGreat.Draw
open Go.ChangeShapes Go.WideShapes Go.ChangeAt Go.RowKit
open Go.Proofs.YtmlojndkpnhalaaGreat.Num Go.Proofs.YtmlojndkpnhalaaGreat.Kit
set_option linter.unusedVariables false
def Code (w : World) (B : Nat) (a : Option Addr) (len : Nat) : Prop :=
  len = 0 ∨ ∃ b off, a = some ⟨b, off, none⟩ ∧ b < B ∧ ∀ i, i < len → ∃ z : Int, 0 ≤ z ∧ z ≤ 255 ∧ w.cell? ⟨b, off + i, none⟩ = some (.int .u8 z)
theorem Code.chg {w w' : World} {B : Nat} {a : Option Addr} {len : Nat} (h : Code w B a len) (k : Chg B w w') : Code w' B a len := by
  rcases h with h | ⟨b, off, ha, hb, h⟩
  · exact .inl h
  · exact .inr ⟨b, off, ha, hb, fun i hi => by obtain ⟨z, z0, z1, hz⟩ := h i hi; exact ⟨z, z0, z1, k.cellOf (a := ⟨b, off + i, none⟩) (Nat.ne_of_lt hb) hz⟩⟩
structure SrcAt (w : World) (B : Nat) (a : Option Addr) (len cap : Nat) (at_ seed : Int) : Prop where
  c0 : w.cell? ⟨B, 0, none⟩ = some (.slice a len cap)
  c1 : w.cell? ⟨B, 1, none⟩ = some (.int .i64 at_)
  c2 : w.cell? ⟨B, 2, none⟩ = some (.int .i64 seed)
  f1 : w.frozen? ⟨B, 1, none⟩ = false
  f2 : w.frozen? ⟨B, 2, none⟩ = false
theorem SrcAt.setSeed {w : World} {B : Nat} {a : Option Addr} {len cap : Nat} {at_ seed : Int} (h : SrcAt w B a len cap at_ seed) (s : Int) : SrcAt (w.setCell ⟨B, 2, none⟩ (.int .i64 s)) B a len cap at_ s :=
  ⟨by rw [World.cell?_setCell_other _ _ _ _ (by simp)]; exact h.c0, by rw [World.cell?_setCell_other _ _ _ _ (by simp)]; exact h.c1, World.cell?_setCell_same _ _ _ h.c2, by rw [World.frozen?_setCell]; exact h.f1, by rw [World.frozen?_setCell]; exact h.f2⟩
theorem SrcAt.setAt {w : World} {B : Nat} {a : Option Addr} {len cap : Nat} {at_ seed : Int} (h : SrcAt w B a len cap at_ seed) (s : Int) : SrcAt (w.setCell ⟨B, 1, none⟩ (.int .i64 s)) B a len cap s seed :=
  ⟨by rw [World.cell?_setCell_other _ _ _ _ (by simp)]; exact h.c0, World.cell?_setCell_same _ _ _ h.c1, by rw [World.cell?_setCell_other _ _ _ _ (by simp)]; exact h.c2, by rw [World.frozen?_setCell]; exact h.f1, by rw [World.frozen?_setCell]; exact h.f2⟩
theorem SrcAt.drewN {w : World} {B : Nat} {a : Option Addr} {len cap : Nat} {at_ seed : Int} (h : SrcAt w B a len cap at_ seed) (n : Nat) : SrcAt (w.drewN n) B a len cap at_ seed := ⟨h.c0, h.c1, h.c2, h.f1, h.f2⟩
theorem SrcAt.drew {w : World} {B : Nat} {a : Option Addr} {len cap : Nat} {at_ seed : Int} (h : SrcAt w B a len cap at_ seed) : SrcAt w.drew B a len cap at_ seed := ⟨h.c0, h.c1, h.c2, h.f1, h.f2⟩
def Src (w : World) (B : Nat) : Prop :=
  ∃ (a : Option Addr) (len cap : Nat) (at_ seed : Int), SrcAt w B a len cap at_ seed ∧ 0 ≤ at_ ∧ at_ ≤ len ∧ len ≤ 100000 ∧ 0 ≤ seed ∧ seed < 2147483647 ∧ Code w B a len
theorem Src.mk {w w' : World} {B : Nat} {a : Option Addr} {len cap : Nat} {at_ seed : Int} (h : SrcAt w' B a len cap at_ seed) (ha0 : 0 ≤ at_) (ha : at_ ≤ len) (hl : len ≤ 100000) (h1 : 0 ≤ seed) (h2 : seed < 2147483647) (k : Chg B w w') (hc : Code w B a len) : Src w' B :=
  ⟨a, len, cap, at_, seed, h, ha0, ha, hl, h1, h2, hc.chg k⟩
def Nxt (B : Nat) (n : Int) (w : World) (e : Ending) (w' : World) : Prop :=
  ∃ r : Int, e = .returned (.int .i64 r) ∧ 0 ≤ r ∧ (1 < n → r < n) ∧ (n ≤ 1 → r = 0) ∧ Src w' B ∧ Chg B w w'
theorem Nxt.mk {B : Nat} {n x : Int} {w w' : World} (hn : 1 < n) (hx : 0 ≤ x) (hs : Src w' B) (k : Chg B w w') : Nxt B n w (.returned (.int .i64 (x % n))) w' :=
  ⟨x % n, rfl, Int.emod_nonneg _ (by omega), fun _ => Int.emod_lt_of_pos _ (by omega), fun h => by omega, hs, k⟩
theorem next_one (B : Nat) (n : Int) (w : World) (hs : Src w B) (hn : n ≤ 1) : Calls Tryz.prog 68 #[.pointer (some ⟨B, 0, none⟩), .int .i64 n] w (Nxt B n w) := by
  have HS := Lib.hid hs
  clear hs
  go_enter Tryz.func68, Tryz.ntmps68
  go_wp2
  go_ret
  exact ⟨0, rfl, by omega, by omega, by omega, HS.out, Chg.refl _ _⟩
theorem next_end (B : Nat) (n : Int) (w : World) (hn : 1 < n) (a : Option Addr) (len cap : Nat) (seed : Int) (S : SrcAt w B a len cap len seed)
    (hl : len ≤ 100000) (h1 : 0 ≤ seed) (h2 : seed < 2147483647) (hc : Code w B a len) :
    Calls Tryz.prog 68 #[.pointer (some ⟨B, 0, none⟩), .int .i64 n] w (Nxt B n w) := by
  have HC := Lib.hid hc
  clear hc
  obtain ⟨c0, c1, c2, f1, f2⟩ := S
  have HS := Lib.hid (SrcAt.mk c0 c1 c2 f1 f2)
  go_enter Tryz.func68, Tryz.ntmps68
  go_wp2_with fail
  go_quiet (fail)
  go_wp2
  go_ret
  exact Nxt.mk hn (by omega) (Src.mk ((HS.out.setSeed _).drewN _) (by omega) (by omega) hl (by omega) (by omega) (((Chg.refl _ _).setCell _ _).drewN _) HC.out) (((Chg.refl _ _).setCell _ _).drewN _)
set_option maxHeartbeats 400000 in
theorem next_mid (B : Nat) (n : Int) (w : World) (hn : 1 < n) (b off len cap at_ : Nat) (seed z : Int) (S : SrcAt w B (some ⟨b, off, none⟩) len cap at_ seed)
    (ha : at_ < len) (hb : b ≠ B) (hz : w.cell? ⟨b, off + at_, none⟩ = some (.int .u8 z)) (z0 : 0 ≤ z) (z1 : z ≤ 255)
    (hl : len ≤ 100000) (h1 : 0 ≤ seed) (h2 : seed < 2147483647) (hc : Code w B (some ⟨b, off, none⟩) len) :
    Calls Tryz.prog 68 #[.pointer (some ⟨B, 0, none⟩), .int .i64 n] w (Nxt B n w) := by
  have HC := Lib.hid hc
  clear hc
  obtain ⟨c0, c1, c2, f1, f2⟩ := S
  have HS := Lib.hid (SrcAt.mk c0 c1 c2 f1 f2)
  have i0 : (0 : Int) ≤ (at_ : Int) := by omega
  have i1 : (at_ : Int) < (len : Int) := by omega
  by_cases g1 : n ≤ 256
  · by_cases g2 : ((at_ : Int) + 1) % 2 = 0
    · have g3 : (((at_ : Int) + 1) % 2 == 0) = true := beq_iff_eq.2 g2
      clear g2
      go_enter Tryz.func68, Tryz.ntmps68
      go_wp2_with fail
      go_quiet (fail)
      go_wp2_with fail
      go_quiet (fail)
      go_wp2_with fail
      go_quiet (fail)
      go_wp2
      go_ret
      exact Nxt.mk hn (by omega) (Src.mk ((((HS.out.setSeed _).drewN _).setAt _).drewN _) (by omega) (by omega) hl (by omega) (by omega) (((((Chg.refl _ _).setCell _ _).drewN _).setCell _ _).drewN _) HC.out) (((((Chg.refl _ _).setCell _ _).drewN _).setCell _ _).drewN _)
    · have g3 : (((at_ : Int) + 1) % 2 == 0) = false := beq_eq_false_iff_ne.2 g2
      clear g2
      go_enter Tryz.func68, Tryz.ntmps68
      go_wp2_with fail
      go_quiet (fail)
      go_wp2_with fail
      go_quiet (fail)
      go_wp2
      go_ret
      exact Nxt.mk hn (by omega) (Src.mk (((HS.out.setSeed _).drewN _).setAt _) (by omega) (by omega) hl (by omega) (by omega) ((((Chg.refl _ _).setCell _ _).drewN _).setCell _ _) HC.out) ((((Chg.refl _ _).setCell _ _).drewN _).setCell _ _)
  · go_enter Tryz.func68, Tryz.ntmps68
    go_wp2_with fail
    go_quiet (fail)
    go_wp2_with fail
    go_quiet (fail)
    go_wp2
    go_ret
    exact Nxt.mk hn (by omega) (Src.mk (((HS.out.setSeed _).drewN _).setAt _) (by omega) (by omega) hl (by omega) (by omega) ((((Chg.refl _ _).setCell _ _).drewN _).setCell _ _) HC.out) ((((Chg.refl _ _).setCell _ _).drewN _).setCell _ _)
theorem next_any (B : Nat) (n : Int) (w : World) (hs : Src w B) : Calls Tryz.prog 68 #[.pointer (some ⟨B, 0, none⟩), .int .i64 n] w (Nxt B n w) := by
  rcases Int.lt_or_le 1 n with hn | hn
  · obtain ⟨a, len, cap, at_, seed, S, a0, a1, hl, h1, h2, hc⟩ := hs
    obtain ⟨k, rfl⟩ := Int.eq_ofNat_of_zero_le a0
    rcases Nat.lt_or_ge k len with hk | hk
    · have hc' := hc
      rcases hc with hc | ⟨b, off, rfl, hb, hc⟩
      · omega
      · obtain ⟨z, z0, z1, hz⟩ := hc k hk
        exact next_mid B n w hn b off len cap k seed z S hk (Nat.ne_of_lt hb) hz z0 z1 hl h1 h2 hc'
    · obtain rfl : k = len := by omega
      exact next_end B n w hn a k cap seed S hl h1 h2 hc
  · exact next_one B n w hs hn
theorem code_of_bytes {w w' : World} {a : Option Addr} {len : Nat} (h : Bytes w a len) (k : Ext w w') {B : Nat} (hB : w.heap.size ≤ B) : Code w' B a len := by
  rcases h with h | ⟨b, off, ha, h⟩
  · exact .inl h
  · rcases Nat.eq_zero_or_pos len with h0 | h0
    · exact .inl h0
    · obtain ⟨z, _, _, hz⟩ := h 0 h0
      have := World.block_lt_of_cell? w _ hz
      exact .inr ⟨b, off, ha, by simp at this; omega, fun i hi => by obtain ⟨z, z0, z1, hz⟩ := h i hi; exact ⟨z, z0, z1, k.cellOf hz⟩⟩
def Frm (w : World) (e : Ending) (w' : World) : Prop := ∃ B, e = .returned (.pointer (some ⟨B, 0, none⟩)) ∧ w.heap.size ≤ B ∧ Src w' B ∧ Ext w w'
def RelF (w : World) (a : Option Addr) (len cap : Nat) (i : Value) (wr : World) : Prop :=
  ∃ (k : Nat) (seed : Int), i = .int .i64 k ∧ k ≤ len ∧ SrcAt wr w.heap.size a len cap 0 seed ∧ 0 ≤ seed ∧ seed < 2147483647 ∧ Ext w wr
set_option maxHeartbeats 400000 in
theorem from_any (a : Option Addr) (len cap : Nat) (w : World) (hb : Bytes w a len) (hl : len ≤ 100000) : Calls Tryz.prog 57 #[.slice a len cap] w (Frm w) := by
  have HB := Lib.hid hb
  clear hb
  go_enter Tryz.func57, Tryz.ntmps57
  go_wp2
  go_loopw [4] (fun i wr => RelF w a len cap i wr) (fun i _ => len - (intOf i).toNat)
  case atStart => exact ⟨0, 61657, rfl, by omega, ⟨boxed 0 rfl rfl, boxed 1 rfl rfl, boxed 2 rfl rfl, thawed 1 rfl, thawed 2 rfl⟩, by omega, by omega, (Ext.refl _).alloc _⟩
  case round =>
    obtain ⟨k, seed, rfl, hk, S, s0, s1, hx⟩ := hrel
    have HX := Lib.hid hx
    have HS := Lib.hid S
    obtain ⟨c0, c1, c2, f1, f2⟩ := S
    by_cases hk1 : k < len
    · by_cases hk2 : k < 64
      · rcases HB.out with h0 | ⟨b, off, rfl, hb⟩
        · omega
        obtain ⟨z, z0, z1, hz⟩ := hb k hk1
        have hne := World.block_lt_of_cell? w _ hz
        replace hz := hx.cellOf hz
        have i0 : (0 : Int) ≤ (k : Int) := by omega
        have i1 : (k : Int) < (len : Int) := by omega
        clear hx hb
        go_wp2
        go_region
        go_wp2
        go_roundw
        case rel => exact ⟨k + 1, (seed * 53 + z) % 2147483647, by go_num, by omega, (HS.out.setSeed _).drew, by omega, by omega, (HX.out.setNew (p := ⟨w.heap.size, 2, none⟩) (Nat.le_refl _) _).drew⟩
        case measure => simp [intOf]; omega
      · clear hx
        go_wp2
        go_ret
        exact ⟨w.heap.size, rfl, Nat.le_refl _, Src.mk HS.out (by omega) (by omega) hl s0 s1 (Chg.refl _ _) (code_of_bytes HB.out HX.out (Nat.le_refl _)), HX.out⟩
    · clear hx
      go_wp2
      go_ret
      exact ⟨w.heap.size, rfl, Nat.le_refl _, Src.mk HS.out (by omega) (by omega) hl s0 s1 (Chg.refl _ _) (code_of_bytes HB.out HX.out (Nat.le_refl _)), HX.out⟩
theorem Src.alloc {w : World} {B : Nat} (h : Src w B) (o : Obj) : Src (w.alloc o) B := by
  obtain ⟨a, len, cap, at_, seed, S, h⟩ := h
  have l1 := World.block_lt_of_cell? w _ S.c1
  have l2 := World.block_lt_of_cell? w _ S.c2
  have hx := (Ext.refl w).alloc o
  exact ⟨a, len, cap, at_, seed, ⟨hx.cellOf S.c0, hx.cellOf S.c1, hx.cellOf S.c2, (Below.frozen hx l1).trans S.f1, (Below.frozen hx l2).trans S.f2⟩, h.1, h.2.1, h.2.2.1, h.2.2.2.1, h.2.2.2.2.1, h.2.2.2.2.2.chg (Chg.of_ext hx)⟩
theorem Src.ext {w w' : World} {B : Nat} (h : Src w B) (hx : Ext w w') : Src w' B := by
  obtain ⟨a, len, cap, at_, seed, S, h⟩ := h
  have l1 := World.block_lt_of_cell? w _ S.c1
  have l2 := World.block_lt_of_cell? w _ S.c2
  exact ⟨a, len, cap, at_, seed, ⟨hx.cellOf S.c0, hx.cellOf S.c1, hx.cellOf S.c2, (Below.frozen hx l1).trans S.f1, (Below.frozen hx l2).trans S.f2⟩, h.1, h.2.1, h.2.2.1, h.2.2.2.1, h.2.2.2.2.1, h.2.2.2.2.2.chg (Chg.of_ext hx)⟩
theorem Src.drew {w : World} {B : Nat} (h : Src w B) : Src w.drew B := h.ext (Ext.refl w).drew
theorem Src.drewN {w : World} {B : Nat} (h : Src w B) (n : Nat) : Src (w.drewN n) B := h.ext ((Ext.refl w).drewN n)
theorem Src.setCell {w : World} {B : Nat} (h : Src w B) {p : Addr} (hp : B < p.block) (u : Value) : Src (w.setCell p u) B := by
  obtain ⟨a, len, cap, at_, seed, S, a0, a1, hl, h1, h2, hc⟩ := h
  have e : ∀ o, (w.setCell p u).cell? ⟨B, o, none⟩ = w.cell? ⟨B, o, none⟩ := fun o => World.cell?_setCell_other _ _ _ _ (fun he => by rw [he] at hp; simp at hp)
  refine ⟨a, len, cap, at_, seed, ⟨(e 0).trans S.c0, (e 1).trans S.c1, (e 2).trans S.c2, by rw [World.frozen?_setCell]; exact S.f1, by rw [World.frozen?_setCell]; exact S.f2⟩, a0, a1, hl, h1, h2, ?_⟩
  rcases hc with hc | ⟨b, off, ha, hb, hc⟩
  · exact .inl hc
  · exact .inr ⟨b, off, ha, hb, fun i hi => by
      obtain ⟨z, z0, z1, hz⟩ := hc i hi
      exact ⟨z, z0, z1, by rw [World.cell?_setCell_other _ _ _ _ (fun he => by rw [he] at hp; simp at hp; omega)]; exact hz⟩⟩
def NxtP (B : Nat) (n : Int) (w : World) (e : Ending) (w' : World) : Prop :=
  ∃ r : Int, e = .returned (.int .i64 r) ∧ 0 ≤ r ∧ r < n ∧ Src w' B ∧ Chg B w w'
theorem next_pos (B : Nat) (n : Int) (w : World) (hs : Src w B) (hn : 1 < n) : Calls Tryz.prog 68 #[.pointer (some ⟨B, 0, none⟩), .int .i64 n] w (NxtP B n w) :=
  (next_any B n w hs).mono fun e w' ⟨r, h0, h1, h2, _, h4, h5⟩ => ⟨r, h0, h1, h2 hn, h4, h5⟩
theorem Src.lt {w : World} {B : Nat} (h : Src w B) : B < w.heap.size := by
  obtain ⟨a, len, cap, at_, seed, S, h⟩ := h
  exact World.block_lt_of_cell? w _ S.c0
theorem pick_any {B : Nat} {w w2 : World} {cs : Array Value} {t : TypeId} (hc : Chg B (w.alloc (.cells cs t)) w2) (hs : Src w B) {r : Nat} {v : Value} (hv : cs[r]? = some v) : w2.cell? ⟨w.heap.size, r, none⟩ = some v :=
  hc.cellOf (a := ⟨w.heap.size, r, none⟩) (by have := hs.lt; simp; omega) (boxed r hv rfl)
theorem pick3 {B : Nat} {w w2 : World} {x0 x1 x2 : Int} {t : TypeId} (hc : Chg B (w.alloc (.cells #[.int .i64 x0, .int .i64 x1, .int .i64 x2] t)) w2) (hs : Src w B) {r : Int} (r0 : 0 ≤ r) (r1 : r < 3) :
    ∃ v : Int, w2.cell? ⟨w.heap.size, r.toNat, none⟩ = some (.int .i64 v) ∧ (v = x0 ∨ v = x1 ∨ v = x2) := by
  obtain ⟨k, rfl⟩ := Int.eq_ofNat_of_zero_le r0
  rw [Int.toNat_natCast]
  rcases (show k = 0 ∨ k = 1 ∨ k = 2 by omega) with rfl | rfl | rfl
  · exact ⟨x0, pick_any hc hs rfl, by simp⟩
  · exact ⟨x1, pick_any hc hs rfl, by simp⟩
  · exact ⟨x2, pick_any hc hs rfl, by simp⟩
def pk3 (x y z r : Int) : Int := if r = 0 then x else if r = 1 then y else z
theorem tbl3 {r : Int} (r0 : 0 ≤ r) (r1 : r < 3) : ∀ x y z : Int, (#[Value.int .i64 x, Value.int .i64 y, Value.int .i64 z] : Array Value)[r.toNat]? = some (.int .i64 (pk3 x y z r)) := by
  intro x y z
  obtain ⟨k, rfl⟩ := Int.eq_ofNat_of_zero_le r0
  rw [Int.toNat_natCast]
  rcases (show k = 0 ∨ k = 1 ∨ k = 2 by omega) with rfl | rfl | rfl <;> rfl
theorem pk3_or (x y z r : Int) : pk3 x y z r = x ∨ pk3 x y z r = y ∨ pk3 x y z r = z := by
  unfold pk3; by_cases h : r = 0
  · simp [h]
  · by_cases h1 : r = 1 <;> simp [h, h1]
theorem tab3 {r : Int} (r0 : 0 ≤ r) (r1 : r < 3) : ∃ f : Int → Int → Int → Int, (∀ x y z : Int, (#[Value.int .i64 x, Value.int .i64 y, Value.int .i64 z] : Array Value)[r.toNat]? = some (.int .i64 (f x y z))) ∧
    (∀ (x y z : Int) (h : r.toNat < [Value.int .i64 x, Value.int .i64 y, Value.int .i64 z].length), [Value.int .i64 x, Value.int .i64 y, Value.int .i64 z][r.toNat]'h = .int .i64 (f x y z)) ∧ Hid (∀ x y z, f x y z = x ∨ f x y z = y ∨ f x y z = z) := by
  refine ⟨fun x y z => pk3 x y z r, tbl3 r0 r1, fun x y z h => ?_, fun x y z => pk3_or x y z r⟩
  have := tbl3 r0 r1 x y z
  rw [List.getElem?_toArray, List.getElem?_eq_getElem h] at this
  exact Option.some.inj this
end Go.Proofs.YtmlojndkpnhalaaGreat.Draw
