/- Contracts of chapter 1's draws of times and texts: l01DrawTime, DrawTimeText, l01Damage, DrawReadTime, and laws.other. -/
import Derived.Test.YtcjcgiagacpolaaDoorDraw
import Derived.Test.YtcjcgiagacpolaaDoorTxt
import Derived.Deep.RegionLaw
import Derived.OwnWalk
import Derived.Laws.OwnMore
import Derived.Laws.AppendOwnNone
import Derived.IntWalk
namespace Go.Proofs.YtcjcgiagacpolaaDoor.Draw
open Go.ChangeShapes Go.WideShapes Go.ChangeAt Go.RowKit
open Go.Proofs.YtcjcgiagacpolaaDoor.Num Go.Proofs.YtcjcgiagacpolaaDoor.Kit Go.Proofs.YtcjcgiagacpolaaDoor.Txt Go.Proofs.YtcjcgiagacpolaaDoor.TxtMath
set_option linter.unusedVariables false

/-- A number comes out, the source stays one, nothing that was in w is written. -/
def OneS (B : Nat) (w : World) (e : Ending) (w' : World) : Prop := ∃ a : Int, e = .returned (.int .i64 a) ∧ Src w' B ∧ Ext w w'

set_option maxHeartbeats 400000 in
theorem drawTime_any (B : Nat) (w v : World) (hB : w.heap.size ≤ B) (hs : Src v B) (hx : Ext w v) : Calls Tryd.prog 15 #[.pointer (some ⟨B, 0, none⟩)] v (OneS B w) := by
  go_enter Tryd.func15, Tryd.ntmps15
  go_wp2_with (go_at_call 25; refine (next_pos _ _ _ (by first | assumption | exact Src.alloc (by assumption) _) (by omega)).mono ?_; rintro e w2 ⟨r, rfl, r0, r1, hs2, hc⟩; (first | obtain ⟨v, hv, hor⟩ := pick2 hc hs r0 r1 | obtain ⟨v, hv, hor⟩ := pick3 hc hs r0 r1 | obtain ⟨v, hv, hor⟩ := pick4 hc hs r0 r1 | obtain ⟨v, hv, hor⟩ := pick5 hc hs r0 r1 | obtain ⟨v, hv, hor⟩ := pick6 hc hs r0 r1 | obtain ⟨v, hv, hor⟩ := pick8 hc hs r0 r1 | skip); (replace hx : Ext w w2 := by first | exact hc.ext hx hB | exact hc.ext (hx.alloc _) hB); clear hc; replace hs := hs2; clear hs2)
  all_goals
    go_ret
    exact ⟨_, rfl, hs, hx⟩

theorem drawTimeText_any (a : Option Addr) (len cap : Nat) (w : World) (hb : Bytes w a len) (hl : len ≤ 100000) :
    Calls Tryd.prog 7 #[.slice a len cap] w fun e w' => ∃ t : Int, e = .returned (.int .i64 t) ∧ Ext w w' := by
  have HB := Lib.hid hb
  clear hb
  go_enter Tryd.func7, Tryd.ntmps7
  go_wp2_with fail
  refine (from_any a len cap _ HB.out hl).mono ?_
  rintro e w1 ⟨B, rfl, hB, hs, hx⟩
  go_wp2_with fail
  refine (drawTime_any B w w1 hB hs hx).mono ?_
  rintro e w2 ⟨t, rfl, hs2, hx2⟩
  go_wp2
  go_ret
  exact ⟨_, rfl, hx2⟩

/-- The letter of l01Damage's table at a place. -/
def letter (r : Int) : ByteArray := if r = 0 then ⟨#[48]⟩ else if r = 1 then ⟨#[58]⟩ else if r = 2 then ⟨#[32]⟩ else if r = 3 then ⟨#[46]⟩ else if r = 4 then ⟨#[45]⟩ else if r = 5 then ⟨#[54]⟩ else if r = 6 then ⟨#[10]⟩ else ⟨#[120]⟩
theorem tbl8 {r : Int} (r0 : 0 ≤ r) (r1 : r < 8) : (#[Value.string ⟨#[48]⟩, Value.string ⟨#[58]⟩, Value.string ⟨#[32]⟩, Value.string ⟨#[46]⟩, Value.string ⟨#[45]⟩, Value.string ⟨#[54]⟩, Value.string ⟨#[10]⟩, Value.string ⟨#[120]⟩] : Array Value)[r.toNat]? = some (.string (letter r)) := by
  obtain ⟨k, rfl⟩ := Int.eq_ofNat_of_zero_le r0
  rw [Int.toNat_natCast]
  rcases (show k = 0 ∨ k = 1 ∨ k = 2 ∨ k = 3 ∨ k = 4 ∨ k = 5 ∨ k = 6 ∨ k = 7 by omega) with rfl | rfl | rfl | rfl | rfl | rfl | rfl | rfl <;> rfl
theorem letter_one (r : Int) : (letter r).size = 1 := by unfold letter; repeat (first | rfl | split)
theorem tab8 {r : Int} (r0 : 0 ≤ r) (r1 : r < 8) : ∃ s : ByteArray, (#[Value.string ⟨#[48]⟩, Value.string ⟨#[58]⟩, Value.string ⟨#[32]⟩, Value.string ⟨#[46]⟩, Value.string ⟨#[45]⟩, Value.string ⟨#[54]⟩, Value.string ⟨#[10]⟩, Value.string ⟨#[120]⟩] : Array Value)[r.toNat]? = some (.string s) ∧
    (∀ h, [Value.string ⟨#[48]⟩, Value.string ⟨#[58]⟩, Value.string ⟨#[32]⟩, Value.string ⟨#[46]⟩, Value.string ⟨#[45]⟩, Value.string ⟨#[54]⟩, Value.string ⟨#[10]⟩, Value.string ⟨#[120]⟩][r.toNat]'h = .string s) ∧ s.size = 1 := by
  refine ⟨letter r, tbl8 r0 r1, fun h => ?_, letter_one r⟩
  have := tbl8 r0 r1
  rw [List.getElem?_toArray, List.getElem?_eq_getElem h] at this
  exact Option.some.inj this

/-- A text comes out, hardly longer. -/
def Dmg (B : Nat) (w : World) (l : List UInt8) (e : Ending) (w' : World) : Prop := ∃ m : ByteArray, e = .returned (.string m) ∧ m.size ≤ l.length + 1 ∧ Src w' B ∧ Ext w w'

set_option maxHeartbeats 400000 in
theorem damage_any (B : Nat) (w v : World) (l : List UInt8) (hl : l.length ≤ 1000000) (hB : w.heap.size ≤ B) (hs : Src v B) (hx : Ext w v) : Calls Tryd.prog 23 #[.pointer (some ⟨B, 0, none⟩), St l] v (Dmg B w l) := by
  go_enter Tryd.func23, Tryd.ntmps23
  go_wp2_with fail
  refine (next_any _ _ _ hs).mono ?_
  rintro e w1 ⟨k, rfl, k0, k1, k2, hs1, hc1⟩
  replace k1 : k ≤ (l.length : Int) := by rcases Int.lt_or_le 1 ((l.length : Int) + 1) with h | h <;> omega
  clear k2
  replace hx := hc1.ext hx hB
  clear hc1 hs
  go_wp2_with fail
  refine (next_pos _ _ _ hs1 (by omega)).mono ?_
  rintro e w2 ⟨r, rfl, r0, r1, hs2, hc2⟩
  replace hx := hc2.ext hx hB
  clear hc2 hs1
  by_cases h0 : r = 0
  · have h1 : (r == 0) = true := beq_iff_eq.2 h0
    clear h0 r0 r1
    go_wp2_with fail
    go_ret
    exact ⟨_, rfl, by simp [ByteArray.size]; omega, hs2, hx⟩
  · have h1 : (r == 0) = false := beq_eq_false_iff_ne.2 h0
    by_cases h2 : r = 1
    · have h3 : (r == 1) = true := beq_iff_eq.2 h2
      clear h0 h2 r0 r1
      go_wp2_with fail
      have hn := Nat.ne_of_gt hs2.lt
      have g1 : ¬ 9223372036854775807 < k.toNat + 1 := by omega
      have g2 : ¬ 9223372036854775807 < k.toNat + 1 + (l.length - k.toNat) := by omega
      go_region_law (first | (go_simp; go_at_call 25; refine (next_pos _ _ _ (by repeat (first | with_reducible assumption | with_reducible apply Src.alloc | with_reducible apply Src.drew | with_reducible apply Src.drewN)) (by omega)).mono ?_; rintro e w3 ⟨q, rfl, q0, q1, hs3, hc⟩; have hcf := hc.facts.1; obtain ⟨s, hT, hL, HS⟩ := tab8 q0 q1))
      all_goals
        go_wp2
        go_ret
        refine ⟨_, rfl, ?_, (by repeat (first | with_reducible assumption | with_reducible apply Src.alloc | with_reducible apply Src.drew | with_reducible apply Src.drewN)), ?_⟩
        · have e1 := HS; unfold ByteArray.size at e1; rw [ByteArray.size_append, ByteArray.size_append, ByteArray.size_extract, ByteArray.size_extract, HS]; simp only [ByteArray.size, List.size_toArray]; omega
        · repeat (first | with_reducible exact hx | with_reducible apply Ext.alloc | with_reducible apply Ext.drew | (with_reducible refine hc.ext ?_ hB))
    · have h3 : (r == 1) = false := beq_eq_false_iff_ne.2 h2
      by_cases h4 : r = 2
      · have h5 : (r == 2) = true := beq_iff_eq.2 h4
        clear h0 h2 h4 r0 r1
        by_cases h6 : k < (l.length : Int)
        · go_wp2_with fail
          go_quiet (fail)
          go_wp2
          go_ret
          exact ⟨_, rfl, by simp [ByteArray.size]; omega, hs2.drewN _, hx.drewN _⟩
        · go_wp2
          go_ret
          exact ⟨_, rfl, by simp [ByteArray.size], hs2, hx⟩
      · have h5 : (r == 2) = false := beq_eq_false_iff_ne.2 h4
        clear h0 h2 h4 r0 r1
        go_wp2
        go_ret
        exact ⟨_, rfl, by simp [ByteArray.size], hs2, hx⟩

theorem tmT_len (t : Int) : (tmT t).length ≤ 30 := by
  unfold tmT
  split
  · rename_i h
    unfold tmL
    simp only [List.length_append, dgs_len, List.length_cons, List.length_nil]
    have := dec_len (t / 60000).toNat (by omega)
    omega
  · simp

set_option maxHeartbeats 400000 in
theorem drawReadTime_any (a : Option Addr) (len cap : Nat) (w : World) (hb : Bytes w a len) (hl : len ≤ 100000) :
    Calls Tryd.prog 11 #[.slice a len cap] w fun e w' => ∃ m : List UInt8, e = .returned (St m) ∧ m.length ≤ 31 ∧ Ext w w' := by
  have HB := Lib.hid hb
  clear hb
  go_enter Tryd.func11, Tryd.ntmps11
  go_wp2_with fail
  refine (from_any a len cap _ HB.out hl).mono ?_
  rintro e w1 ⟨B, rfl, hB, hs, hx⟩
  go_wp2_with fail
  refine (drawTime_any B w w1 hB hs hx).mono ?_
  rintro e w2 ⟨t, rfl, hs2, hx2⟩
  go_wp2_with fail
  refine (timeText_spec t w2).mono ?_
  rintro e w3 ⟨rfl, hx3⟩
  go_wp2_with fail
  refine (damage_any B w w3 (tmT t) (by have := tmT_len t; omega) hB (hs2.ext hx3) (hx2.trans hx3)).mono ?_
  rintro e w4 ⟨m, rfl, hm, hs4, hx4⟩
  go_wp2
  go_ret
  refine ⟨m.data.toList, rfl, ?_, hx4⟩
  have := tmT_len t
  rw [show m.data.toList.length = m.size from Array.length_toList]
  omega

theorem info8 : (Tryd.prog.info? 5).map (fun i => (i.zero, i.size, i.bytes)) = some (some (.int .u8 0), 1, 1) := by kernel_rfl

theorem grown_ext {w v w' : World} (hx : Ext w v) (h : v.grownBy w' (some w.heap.size)) : Ext w w' :=
  Chg.ext (B := w.heap.size) ⟨h.os, h.tape, h.output, h.size, fun k hk hne => h.block k hk (by simpa using hne)⟩ hx (Nat.le_refl _)

theorem own_bytes {w : World} {base : Nat} {e : TypeId} {v : Value} {n : Nat} {xs : List Value} (h : w.ownsRow base e 1 v n xs) (hx : ∀ u ∈ xs, ∃ z : Int, 0 ≤ z ∧ z ≤ 255 ∧ u = .int .u8 z) (hn : 0 < n) :
    ∃ a cap, v = .slice a n cap ∧ Bytes w a n := by
  rcases h.2 with ⟨_, h0⟩ | ⟨g, cap, cur, rfl, _, _, _⟩
  · omega
  · refine ⟨_, cap, rfl, .inr ⟨g, 0, rfl, fun i hi => ?_⟩⟩
    have hc := World.ownsRow.cellAt h i (by omega)
    have hl : i < xs.length := by have := h.1; omega
    rw [List.getElem?_eq_getElem hl] at hc
    obtain ⟨z, z0, z1, hz⟩ := hx _ (List.getElem_mem hl)
    exact ⟨z, z0, z1, by rw [Nat.zero_add, hc, hz]⟩

theorem row_ext {k : IntKind} {w w' : World} {a : Option Addr} {len cap : Nat} {zs : List Int} (h : IsRow k w a len cap zs) (hx : Ext w w') : IsRow k w' a len cap zs := by
  rcases h with h | ⟨x, h1, h2, h3, h4, h5, h6⟩
  · exact .inl h
  · exact .inr ⟨x, h1, h2, h3, h4, fun i hi => hx.cellOf (h5 i hi), h6⟩

/-- A code that is three letters longer comes out. -/
def Oth (w : World) (len : Nat) (e : Ending) (w' : World) : Prop := ∃ a' cap', e = .returned (.slice a' (len + 3) cap') ∧ Bytes w' a' (len + 3) ∧ Ext w w'

set_option maxHeartbeats 400000 in
theorem other_any (a : Option Addr) (len cap : Nat) (zs : List Int) (k : Int) (w : World) (hr : IsRow .u8 w a len cap zs) (hl : len ≤ 4096) (k0 : 0 ≤ k) (k1 : k ≤ 80) :
    Calls Tryd.prog 12 #[.slice a len cap, .int .u8 k] w (Oth w len) := by
  have u1 : IntKind.u8.wrap (k + 7) = k + 7 := IntWalk.u8_in _ (by omega)
  have u2 : IntKind.u8.wrap (3 * k) = 3 * k := IntWalk.u8_in _ (by omega)
  obtain ⟨i0, hi, hz0, hz1, hz2⟩ := info_parts info8
  rcases hr with ⟨rfl, rfl, rfl, rfl⟩ | ⟨x, rfl, hlc, hm, hzl, hc, hw⟩
  · go_enter Tryd.func12, Tryd.ntmps12
    go_wp2_with (at_builtin; refine wpList_append_own_none rfl _ _ 22 rfl w.heap.size 5 i0 1 Tryd.underlying22 hi _ 3 _ rfl (World.ownsRow_lit w #[.int .u8 k, .int .u8 (k + 7), .int .u8 (3 * k)] 3 (Nat.le_refl _) (by unfold maxLen; omega) rfl) rfl ?_)
    go_ret
    refine ⟨_, 3, rfl, .inr ⟨w.heap.size, 0, rfl, fun i hi => ?_⟩, (Ext.refl _).alloc _⟩
    rcases (show i = 0 ∨ i = 1 ∨ i = 2 by omega) with rfl | rfl | rfl
    · exact ⟨k, by omega, by omega, boxed 0 rfl rfl⟩
    · exact ⟨k + 7, by omega, by omega, boxed 1 rfl rfl⟩
    · exact ⟨3 * k, by omega, by omega, boxed 2 rfl rfl⟩
  · obtain ⟨ns, n1, n2, n3⟩ : ∃ ns : List Value, ns.length = len ∧ (∀ j u, ns[j]? = some u → w.cell? (x.add j) = some u) ∧ ∀ u ∈ ns, ∃ z : Int, 0 ≤ z ∧ z ≤ 255 ∧ u = .int .u8 z := by
      refine ⟨(zs.take len).map (.int .u8), by simp; omega, fun j u hu => ?_, fun u hu => ?_⟩
      · rw [List.getElem?_map, Option.map_eq_some_iff] at hu
        obtain ⟨z, hz, rfl⟩ := hu
        obtain ⟨hj, hz'⟩ := List.getElem?_eq_some_iff.1 hz
        have hj2 : j < len := by rw [List.length_take] at hj; omega
        rw [List.getElem_take] at hz'
        rw [hc j (by omega), ← hz']
        simp [show j < zs.length by omega]
      · obtain ⟨z, hz, rfl⟩ := List.mem_map.1 hu
        have h8 : 0 ≤ z ∧ z ≤ 255 := by simpa [Lit.wf, IntKind.min, IntKind.max, IntKind.signed, IntKind.bits] using hw z (List.mem_of_mem_take hz)
        exact ⟨z, h8.1, h8.2, rfl⟩
    have N3 := Lib.hid n3
    have o1 : ∀ u ∈ ns, u.oneCell' = true := fun u hu => by obtain ⟨z, _, _, rfl⟩ := n3 u hu; rfl
    clear hc hw n3
    go_enter Tryd.func12, Tryd.ntmps12
    go_wp2_with (at_builtin; refine wpList_append_own _ rfl _ _ 22 rfl w.heap.size 5 i0 (.int .u8 0) 1 1 Tryd.underlying22 hi hz0 hz1 hz2 rfl (by decide) _ 3 _ rfl (World.ownsRow_lit w #[.int .u8 k, .int .u8 (k + 7), .int .u8 (3 * k)] 3 (Nat.le_refl _) (by unfold maxLen; omega) rfl) x len cap ns rfl (by omega) (fun j u hu => Ext.cellOf ((Ext.refl _).alloc _) (n2 j u hu)) o1 (by unfold maxLen; omega) (by omega) (by simp) ?_; intro v' w1 hown hgrow hnil)
    go_ret
    obtain ⟨a', cap', rfl, hB⟩ := own_bytes hown (fun u hu => by
      rcases List.mem_append.1 hu with hu | hu
      · simp only [List.mem_cons, List.not_mem_nil, or_false] at hu
        rcases hu with rfl | rfl | rfl
        · exact ⟨k, by omega, by omega, rfl⟩
        · exact ⟨k + 7, by omega, by omega, rfl⟩
        · exact ⟨3 * k, by omega, by omega, rfl⟩
      · exact N3.out u hu) (by omega)
    rw [Nat.add_comm 3 len] at hB ⊢
    exact ⟨a', cap', rfl, hB, grown_ext ((Ext.refl _).alloc _) hgrow⟩

end Go.Proofs.YtcjcgiagacpolaaDoor.Draw
