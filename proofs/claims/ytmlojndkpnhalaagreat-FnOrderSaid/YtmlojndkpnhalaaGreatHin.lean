import Derived.Test.YtmlojndkpnhalaaGreatMLen2
namespace Go.Proofs.YtmlojndkpnhalaaGreat.Crs
open Go.ChangeShapes Go.WideShapes Go.ChangeAt Go.RowKit Go.PlainAid
open Go.Proofs.YtmlojndkpnhalaaGreat.Num Go.Proofs.YtmlojndkpnhalaaGreat.Kit
set_option linter.unusedVariables false
set_option linter.unusedSimpArgs false
theorem nz_get {zs : List Int} {i : Nat} (h : i < zs.length) : nz zs i = zs[i] := by
  unfold nz
  rw [List.getD_eq_getElem?_getD, List.getElem?_eq_getElem h]; rfl
def RelHi (w : World) (zs : List Int) (x : Int) (i : Value) (wr : World) : Prop := ∃ j : Nat, i = .int .i64 j ∧ j ≤ zs.length ∧ (∀ m, m < j → nz zs m ≠ x) ∧ Ext w wr
set_option maxHeartbeats 1000000 in
theorem hasInt_any (a : Option Addr) (cap : Nat) (zs : List Int) (x : Int) (w : World) (h : Zxs w a zs) :
    Calls Tryz.prog 22 #[.slice a zs.length cap, .int .i64 x] w fun e w' => e = .returned (.bool (decide (x ∈ zs))) ∧ Ext w w' := by
  have HZ := Lib.hid h
  have HL := Lib.hid (show zs.length ≤ maxLen from h.1)
  clear h
  go_enter Tryz.func22, Tryz.ntmps22
  go_wp2
  go_loopw [5] (fun i wr => RelHi w zs x i wr) (fun i wr => zs.length - (intOf i).toNat)
  case atStart => exact ⟨0, rfl, Nat.zero_le _, fun m hm => absurd hm (by omega), Ext.refl _⟩
  case round =>
    obtain ⟨j, rfl, hj, hno, hx⟩ := hrel
    have HX := Lib.hid hx
    have HNO := Lib.hid hno
    clear hx hno
    by_cases hj1 : j < zs.length
    · obtain ⟨b, off, rfl, hc⟩ := HZ.out.row (by omega)
      have c0 := HX.out.cellOf (hc j hj1)
      have i0 : (0 : Int) ≤ (j : Int) := by omega
      have i1 : (j : Int) < (zs.length : Int) := by omega
      have T0 : IntKind.i64.wrap ((j : Int) + 1) = (j : Int) + 1 := IntWalk.i64_in _ (by have := HL.out; unfold maxLen at this; omega)
      clear hc
      by_cases he : nz zs j = x
      · have H := Lib.hid (show decide (x ∈ zs) = true from decide_eq_true (by rw [← he, nz_get hj1]; exact List.getElem_mem _))
        have B0 : (nz zs j == x) = true := by simpa using he
        clear he
        generalize nz zs j = y at *
        go_wp2
        go_ret
        exact ⟨ret_bool H.out, HX.out⟩
      · have B0 : (nz zs j == x) = false := by simpa using he
        have HE := Lib.hid he
        clear he
        obtain ⟨y, hy⟩ : ∃ y, y = nz zs j := ⟨_, rfl⟩
        have HY := Lib.hid hy
        rw [← hy] at B0 c0
        clear hy
        go_wp2
        go_roundw
        case rel => exact ⟨j + 1, by go_num, by omega, fun m hm => by by_cases e : m = j; (rw [e]; exact HE.out); exact HNO.out m (by omega), HX.out⟩
        case measure => simp [intOf]; omega
    · obtain rfl : j = zs.length := by omega
      have H := Lib.hid (show decide (x ∈ zs) = false from decide_eq_false (fun hm => by
        obtain ⟨m, hm, e⟩ := List.mem_iff_getElem.1 hm
        exact HNO.out m hm (by rw [nz_get hm]; exact e)))
      go_wp2
      go_ret
      exact ⟨ret_bool H.out, HX.out⟩
end Go.Proofs.YtmlojndkpnhalaaGreat.Crs
