import Derived.Test.YtplbahdomjeekaaGreatZon6
import Derived.Test.YtplbahdomjeekaaGreatZonN
import Derived.Test.YtplbahdomjeekaaGreatMPos
import Derived.Test.YtplbahdomjeekaaGreatMSta
import Derived.Test.YtplbahdomjeekaaGreatHin
namespace Go.Proofs.YtplbahdomjeekaaGreat.Crs
open Go.ChangeShapes Go.WideShapes Go.ChangeAt Go.RowKit
open Go.Proofs.YtplbahdomjeekaaGreat.Kit Go.Proofs.YtplbahdomjeekaaGreat.Num Go.Proofs.YtplbahdomjeekaaGreat.Pts Go.Proofs.YtplbahdomjeekaaGreat.Seg Go.Proofs.YtplbahdomjeekaaGreat.Rt
open Go.Proofs.YtplbahdomjeekaaGreat.Trk (F3 Fxs Tr trB fx pkX pkY legOf pk_Co lastB_fix po_fix po_yes okB_fx fxB_yes poX poY ctI ctI_in)
set_option linter.unusedVariables false
set_option linter.unusedSimpArgs false
structure ZF (l k : L4) (ms : List M5) (fs : List F3) (i : Nat) (p D S : Int) : Prop where
  hi : i < ms.length
  cp : ctI fs p = 0
  pt : ptB (poX fs p) (poY fs p) = true
  pm : ptB (mk ms i).x (mk ms i).y = true
  z1 : 1 ≤ (mk ms i).z
  z2 : (mk ms i).z ≤ 5000
  eS : sqD (poX fs p) (poY fs p) (mk ms i).x (mk ms i).y = S
  eD : dmV l k ms fs i p = D
  D0 : 0 ≤ D
  D1 : D ≤ 2828428
  S0 : 0 ≤ S
  S1 : S ≤ 8000000000000
  lo : D * D ≤ S
  up : S < (D + 1) * (D + 1)
  ev : zaV l k ms fs i p = decide (S ≤ (mk ms i).z * (mk ms i).z)
  mc : mfC l k ms (trB fs) i = 0
  lc : lmC l k ms fs i p 7 = 0
  lv : lmV l k ms fs i p 7 = D / 7
  fx : ∀ j, j + 1 < fs.length → zaC l k ms fs i (Trk.fx fs j).t = 0 ∧ (zaV l k ms fs i (Trk.fx fs j).t = true → (j : Int) ∈ lzZ l k ms fs i)
theorem zn_facts {l k : L4} {ms : List M5} {fs : List F3} {i : Nat} {p : Int} (h : zaC l k ms fs i p = 0) : ∃ D S, ZF l k ms fs i p D S := by
  obtain ⟨g, hl⟩ := za_zero h
  obtain ⟨hq, hv, hn0, hn⟩ := mf_zero g
  have hi : i < ms.length := by omega
  obtain ⟨⟨mx, my⟩, _, z1, z2⟩ := mk_yes (cr_mk hq hi)
  obtain ⟨d0, d1⟩ := pk_Co hv hl
  have hc := ctI_in hv hl
  obtain ⟨e1, e2⟩ := po_yes hc
  obtain ⟨-, v1, v2⟩ := za_yes g hl
  obtain ⟨l1, l2⟩ := lm_yes (h := 7) h (by omega)
  obtain ⟨b0, b1⟩ := sq_bd d0 d1 mx my
  obtain ⟨r0, r1⟩ := Wid.rt_bd b0 b1
  have up : sqD (pkX fs p (legOf fs p)) (pkY fs p (legOf fs p)) (mk ms i).x (mk ms i).y < (rt (sqD (pkX fs p (legOf fs p)) (pkY fs p (legOf fs p)) (mk ms i).x (mk ms i).y) + 1) * (rt (sqD (pkX fs p (legOf fs p)) (pkY fs p (legOf fs p)) (mk ms i).x (mk ms i).y) + 1) := by
    rcases Int.lt_or_le (sqD (pkX fs p (legOf fs p)) (pkY fs p (legOf fs p)) (mk ms i).x (mk ms i).y) ((rt (sqD (pkX fs p (legOf fs p)) (pkY fs p (legOf fs p)) (mk ms i).x (mk ms i).y) + 1) * (rt (sqD (pkX fs p (legOf fs p)) (pkY fs p (legOf fs p)) (mk ms i).x (mk ms i).y) + 1)) with q | q
    · exact q
    · exfalso; have := rt_max (by omega) q; omega
  refine ⟨rt (sqD (pkX fs p (legOf fs p)) (pkY fs p (legOf fs p)) (mk ms i).x (mk ms i).y), sqD (pkX fs p (legOf fs p)) (pkY fs p (legOf fs p)) (mk ms i).x (mk ms i).y,
    hi, hc, by rw [e1, e2]; exact pt_mk d0 d1, pt_mk mx my, z1, z2, by rw [e1, e2], v2, r0, r1, b0, b1, rt_sq b0, up, v1, g, l1, by rw [l2, v2], fun j hj => ?_⟩
  obtain ⟨⟨h2, h40⟩, hok⟩ := Trk.trB_yes hv
  have hp : ∀ j, j < fs.length → Co (Trk.fx fs j).x ∧ Co (Trk.fx fs j).y := fun j hj => (fxB_yes (okB_fx (hok j hj))).2
  have hlj := lastB_fix hv (show j < fs.length by omega)
  obtain ⟨y0, y1, -⟩ := za_yes g hlj
  refine ⟨y0, fun hz => ?_⟩
  obtain ⟨f1, f2, f3⟩ := po_fix hv (show j < fs.length by omega)
  obtain ⟨f4, f5⟩ := po_yes f1
  rw [f4] at f2
  rw [f5] at f3
  rw [y1, f2, f3] at hz
  have c1 := hp j (by omega)
  have c2 := hp (j + 1) hj
  have ht : tgB (mk ms i) fs j = true := to_ends c1.1 c1.2 c2.1 c2.2 (.inl hz)
  rw [lz_yes g]
  unfold tzL tgL tgN
  exact List.mem_map.2 ⟨j, List.mem_filter.2 ⟨List.mem_range.2 (by omega), ht⟩, rfl⟩
end Go.Proofs.YtplbahdomjeekaaGreat.Crs
