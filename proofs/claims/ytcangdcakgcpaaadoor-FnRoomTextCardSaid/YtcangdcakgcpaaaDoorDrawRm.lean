/- The draws of rooms' texts (chapter 11): l11Draw, DrawRoomText. -/
import Derived.Test.YtcangdcakgcpaaaDoorDraw
import Derived.Test.YtcangdcakgcpaaaDoorCel
import Derived.Test.YtcangdcakgcpaaaDoorRmx
namespace Go.Proofs.YtcangdcakgcpaaaDoor.Draw
open Go.ChangeShapes Go.WideShapes Go.ChangeAt Go.RowKit
open Go.Proofs.YtcangdcakgcpaaaDoor.Num Go.Proofs.YtcangdcakgcpaaaDoor.Kit Go.Proofs.YtcangdcakgcpaaaDoor.Rmx
set_option linter.unusedVariables false
set_option linter.unusedSimpArgs false

/-- A room comes out. -/
def ARm (B : Nat) (w : World) (e : Ending) (w' : World) : Prop := ∃ k r : Int, e = .returned (Rm k r) ∧ Src w' B ∧ Chg B w w'
def RmE (w : World) (e : Ending) (w' : World) : Prop := ∃ k r : Int, e = .returned (Rm k r) ∧ Ext w w'
theorem rmd_done {B n : Nat} {w F : World} {tmps : Array Value} {x y : Int} (p : Box F n [.int .i64 x, .int .i64 y]) (h2 : tmps[2]? = some (.pointer (some ⟨n, 0, none⟩))) (hs : Src F B) (hC : Chg B w F) :
    bodyPost Tryd.prog Tryd.f15 (ARm B w) Exit.ret ⟨tmps, []⟩ F := by
  obtain ⟨⟨p0, p1⟩, _⟩ := p.two
  exact bodyPost_ret (v := Rm x y) (by simp [results, Tryd.results15, go_sem, h2, p0, p1]) rfl ⟨x, y, rfl, hs, hC⟩
theorem quo11 {r : Int} (h0 : 0 ≤ r) (h1 : r < 12) : 0 ≤ r.tdiv 11 ∧ r.tdiv 11 ≤ 1 := by
  obtain ⟨k, rfl⟩ := Int.eq_ofNat_of_zero_le h0
  have : (k : Int).tdiv 11 = ((k / 11 : Nat) : Int) := rfl
  rw [this]; omega

set_option maxHeartbeats 2000000 in
theorem drawRoom_any (B : Nat) (w : World) (hs : Src w B) : Calls Tryd.prog 15 #[.pointer (some ⟨B, 0, none⟩)] w (ARm B w) := by
  have HS := Lib.hid hs
  have hB := hs.lt
  clear hs
  go_enter Tryd.func15, Tryd.ntmps15
  go_wp2_with fail
  refine (next_pos B _ _ (HS.out.alloc _) (by omega)).mono ?_
  rintro e w1 ⟨r1, rfl, r10, r11, hs1, hc1⟩
  have R := Lib.hid (Box.chg (Box.new2 (w := w) (n := w.heap.size) (x := .int .i64 0) (y := .int .i64 0) (t := 25) rfl) hc1 (by omega))
  have C := Lib.hid (((Chg.refl B w).alloc (.cells #[.int .i64 0, .int .i64 0] 25)).trans hc1)
  clear hc1
  go_wp2_with fail
  refine (next_pos B _ _ hs1 (by omega)).mono ?_
  rintro e w2 ⟨r2, rfl, r20, r21, hs2, hc2⟩
  replace R := Lib.hid (R.out.chg hc2 (by omega))
  replace C := Lib.hid (C.out.trans hc2)
  obtain ⟨q20, q21⟩ := quo11 r20 r21
  clear hc2 hs1
  go_wp2_with fail
  refine (next_pos B _ _ hs2 (by omega)).mono ?_
  rintro e w3 ⟨r3, rfl, r30, r31, hs3, hc3⟩
  replace R := Lib.hid (R.out.chg hc3 (by omega))
  replace C := Lib.hid (C.out.trans hc3)
  clear hc3 hs2
  go_wp2_with fail
  refine (next_pos B _ _ hs3 (by omega)).mono ?_
  rintro e w4 ⟨r4, rfl, r40, r41, hs4, hc4⟩
  replace R := Lib.hid (R.out.chg hc4 (by omega))
  replace C := Lib.hid (C.out.trans hc4)
  obtain ⟨q40, q41⟩ := quo11 r40 r41
  have S4 := Lib.hid hs4
  clear hc4 hs3 hs4
  obtain ⟨⟨y0, y1⟩, y2, y3⟩ := R.out.two
  go_wp2
  exact rmd_done R.out.set2 rfl ((S4.out.setCell (by simp; omega) _).setCell (by simp; omega) _) ((C.out.setNew (p := ⟨w.heap.size, 0, none⟩) (by simp) _).setNew (p := ⟨w.heap.size, 1, none⟩) (by simp) _)

theorem drawRoomText_any (a : Option Addr) (len cap : Nat) (w : World) (hb : Bytes w a len) (hl : len ≤ 100000) : Calls Tryd.prog 7 #[.slice a len cap] w (RmE w) := by
  have HB := Lib.hid hb
  clear hb
  go_enter Tryd.func7, Tryd.ntmps7
  go_wp2_with fail
  refine (from_any a len cap _ (HB.out.ext ((Ext.refl w).alloc _)) hl).mono ?_
  rintro e w1 ⟨B, rfl, hB, hs1, hy⟩
  have hz := hy.size
  simp at hz hB
  have R := Lib.hid (Box.ext (Box.new2 (w := w) (n := w.heap.size) (x := .int .i64 0) (y := .int .i64 0) (t := 25) rfl) hy)
  replace hy := ((Ext.refl w).alloc (.cells #[.int .i64 0, .int .i64 0] 25)).trans hy
  go_wp2_with fail
  refine (drawRoom_any B _ hs1).mono ?_
  rintro e w2 ⟨k, r, rfl, hs2, hc⟩
  replace R := Lib.hid (R.out.chg hc (by omega))
  have X := hc.ext hy (by omega)
  obtain ⟨⟨y0, y1⟩, y2, y3⟩ := R.out.two
  go_wp2
  have R2 := R.out.set2 (u := .int .i64 k) (v := .int .i64 r)
  obtain ⟨⟨z0, z1⟩, _⟩ := R2.two
  exact bodyPost_ret (v := Rm k r) (by simp [results, Tryd.results7, go_sem, z0, z1]) rfl ⟨k, r, rfl, (X.setNew (p := ⟨w.heap.size, 0, none⟩) (by simp) _).setNew (p := ⟨w.heap.size, 1, none⟩) (by simp) _⟩

end Go.Proofs.YtcangdcakgcpaaaDoor.Draw
