/- laws.other: a code that is three letters longer. -/
import Derived.Test.YtkodmdfcppnfoaaDraw
import Derived.OwnWalk
import Derived.Laws.OwnMore
import Derived.Laws.AppendOwnNone
import Derived.IntWalk
namespace Go.Proofs.Ytkodmdfcppnfoaa.Oth
open Go.ChangeShapes Go.WideShapes Go.ChangeAt Go.RowKit
open Go.Proofs.Ytkodmdfcppnfoaa.Num Go.Proofs.Ytkodmdfcppnfoaa.Kit Go.Proofs.Ytkodmdfcppnfoaa.Draw
set_option linter.unusedVariables false

theorem info8 : (Try.prog.info? 5).map (fun i => (i.zero, i.size, i.bytes)) = some (some (.int .u8 0), 1, 1) := by kernel_rfl

theorem grown_ext {w v w' : World} (hx : Ext w v) (h : v.grownBy w' (some w.heap.size)) : Ext w w' :=
  Chg.ext (B := w.heap.size) ⟨h.os, h.tape, h.output, h.size, fun k hk hne => h.block k hk (by simpa using hne)⟩ hx (Nat.le_refl _)

theorem own_bytes {w : World} {base : Nat} {e : TypeId} {v : Value} {n : Nat} {xs : List Value} (h : w.ownsRow base e 1 v n xs) (hx : ∀ u ∈ xs, ∃ z : Int, 0 ≤ z ∧ z ≤ 255 ∧ u = .int .u8 z) (hn : 0 < n) :
    ∃ a cap, v = .slice a n cap ∧ Bytes w a n := by
  rcases h.2 with ⟨_, h0⟩ | ⟨g, cap, cur, rfl, _, _, _⟩
  · omega
  · refine ⟨_, cap, rfl, .inr ⟨g, 0, rfl, fun i hi => ?_⟩⟩
    have hc := World.ownsRow.cellAt h i (by omega)
    have hl : i < xs.length := by have := h.1; omega
    rw [List.getElem?_eq_getElem hl] at hc
    obtain ⟨z, z0, z1, hz⟩ := hx _ (List.getElem_mem hl)
    exact ⟨z, z0, z1, by rw [Nat.zero_add, hc, hz]⟩

theorem row_ext {k : IntKind} {w w' : World} {a : Option Addr} {len cap : Nat} {zs : List Int} (h : IsRow k w a len cap zs) (hx : Ext w w') : IsRow k w' a len cap zs := by
  rcases h with h | ⟨x, h1, h2, h3, h4, h5, h6⟩
  · exact .inl h
  · exact .inr ⟨x, h1, h2, h3, h4, fun i hi => hx.cellOf (h5 i hi), h6⟩

/-- A code that is three letters longer comes out. -/
def Oth (w : World) (len : Nat) (e : Ending) (w' : World) : Prop := ∃ a' cap', e = .returned (.slice a' (len + 3) cap') ∧ Bytes w' a' (len + 3) ∧ Ext w w'

set_option maxHeartbeats 400000 in
theorem other_any (a : Option Addr) (len cap : Nat) (zs : List Int) (k : Int) (w : World) (hr : IsRow .u8 w a len cap zs) (hl : len ≤ 4096) (k0 : 0 ≤ k) (k1 : k ≤ 80) :
    Calls Try.prog 26 #[.slice a len cap, .int .u8 k] w (Oth w len) := by
  have u1 : IntKind.u8.wrap (k + 7) = k + 7 := IntWalk.u8_in _ (by omega)
  have u2 : IntKind.u8.wrap (3 * k) = 3 * k := IntWalk.u8_in _ (by omega)
  obtain ⟨i0, hi, hz0, hz1, hz2⟩ := info_parts info8
  rcases hr with ⟨rfl, rfl, rfl, rfl⟩ | ⟨x, rfl, hlc, hm, hzl, hc, hw⟩
  · go_enter Try.func26, Try.ntmps26
    go_wp2_with (at_builtin; refine wpList_append_own_none rfl _ _ 22 rfl w.heap.size 5 i0 1 Try.underlying22 hi _ 3 _ rfl (World.ownsRow_lit w #[.int .u8 k, .int .u8 (k + 7), .int .u8 (3 * k)] 3 (Nat.le_refl _) (by unfold maxLen; omega) rfl) rfl ?_)
    go_ret
    refine ⟨_, 3, rfl, .inr ⟨w.heap.size, 0, rfl, fun i hi => ?_⟩, (Ext.refl _).alloc _⟩
    rcases (show i = 0 ∨ i = 1 ∨ i = 2 by omega) with rfl | rfl | rfl
    · exact ⟨k, by omega, by omega, boxed 0 rfl rfl⟩
    · exact ⟨k + 7, by omega, by omega, boxed 1 rfl rfl⟩
    · exact ⟨3 * k, by omega, by omega, boxed 2 rfl rfl⟩
  · obtain ⟨ns, n1, n2, n3⟩ : ∃ ns : List Value, ns.length = len ∧ (∀ j u, ns[j]? = some u → w.cell? (x.add j) = some u) ∧ ∀ u ∈ ns, ∃ z : Int, 0 ≤ z ∧ z ≤ 255 ∧ u = .int .u8 z := by
      refine ⟨(zs.take len).map (.int .u8), by simp; omega, fun j u hu => ?_, fun u hu => ?_⟩
      · rw [List.getElem?_map, Option.map_eq_some_iff] at hu
        obtain ⟨z, hz, rfl⟩ := hu
        obtain ⟨hj, hz'⟩ := List.getElem?_eq_some_iff.1 hz
        have hj2 : j < len := by rw [List.length_take] at hj; omega
        rw [List.getElem_take] at hz'
        rw [hc j (by omega), ← hz']
        simp [show j < zs.length by omega]
      · obtain ⟨z, hz, rfl⟩ := List.mem_map.1 hu
        have h8 : 0 ≤ z ∧ z ≤ 255 := by simpa [Lit.wf, IntKind.min, IntKind.max, IntKind.signed, IntKind.bits] using hw z (List.mem_of_mem_take hz)
        exact ⟨z, h8.1, h8.2, rfl⟩
    have N3 := Lib.hid n3
    have o1 : ∀ u ∈ ns, u.oneCell' = true := fun u hu => by obtain ⟨z, _, _, rfl⟩ := n3 u hu; rfl
    clear hc hw n3
    go_enter Try.func26, Try.ntmps26
    go_wp2_with (at_builtin; refine wpList_append_own _ rfl _ _ 22 rfl w.heap.size 5 i0 (.int .u8 0) 1 1 Try.underlying22 hi hz0 hz1 hz2 rfl (by decide) _ 3 _ rfl (World.ownsRow_lit w #[.int .u8 k, .int .u8 (k + 7), .int .u8 (3 * k)] 3 (Nat.le_refl _) (by unfold maxLen; omega) rfl) x len cap ns rfl (by omega) (fun j u hu => Ext.cellOf ((Ext.refl _).alloc _) (n2 j u hu)) o1 (by unfold maxLen; omega) (by omega) (by simp) ?_; intro v' w1 hown hgrow hnil)
    go_ret
    obtain ⟨a', cap', rfl, hB⟩ := own_bytes hown (fun u hu => by
      rcases List.mem_append.1 hu with hu | hu
      · simp only [List.mem_cons, List.not_mem_nil, or_false] at hu
        rcases hu with rfl | rfl | rfl
        · exact ⟨k, by omega, by omega, rfl⟩
        · exact ⟨k + 7, by omega, by omega, rfl⟩
        · exact ⟨3 * k, by omega, by omega, rfl⟩
      · exact N3.out u hu) (by omega)
    rw [Nat.add_comm 3 len] at hB ⊢
    exact ⟨a', cap', rfl, hB, grown_ext ((Ext.refl _).alloc _) hgrow⟩

end Go.Proofs.Ytkodmdfcppnfoaa.Oth
