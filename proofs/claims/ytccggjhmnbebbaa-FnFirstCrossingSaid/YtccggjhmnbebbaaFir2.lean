/- l05First (spec); comparing two equal crossings (laws). -/
import Derived.Test.YtccggjhmnbebbaaFir
namespace Go.Proofs.Ytccggjhmnbebbaa.Rwk
open Go.ChangeShapes Go.WideShapes Go.ChangeAt Go.RowKit
open Go.Proofs.Ytccggjhmnbebbaa.Num Go.Proofs.Ytccggjhmnbebbaa.Kit Go.Proofs.Ytccggjhmnbebbaa.Pts Go.Proofs.Ytccggjhmnbebbaa.Seg Go.Proofs.Ytccggjhmnbebbaa.Gcd Go.Proofs.Ytccggjhmnbebbaa.Crs Go.Proofs.Ytccggjhmnbebbaa.Trk
set_option linter.unusedVariables false
set_option linter.unusedSimpArgs false

abbrev put5 (F : World) (n : Nat) (c : C5) : World := ((((F.setCell ⟨n, 0, none⟩ (.int .i64 c.t)).setCell ⟨n, 1, none⟩ (.int .i64 c.l)).setCell ⟨n, 2, none⟩ (.int .i64 c.g)).setCell ⟨n, 3, none⟩ (.int .i64 c.x)).setCell ⟨n, 4, none⟩ (.int .i64 c.y)
theorem put5_ok {w F : World} {n : Nat} {a b c d e : Value} (h : Ext w F) (hn : w.heap.size ≤ n) (B : Box F n [a, b, c, d, e]) (x : C5) : Ext w (put5 F n x) ∧ Box (put5 F n x) n (CL x) :=
  ⟨((((h.setNew (p := ⟨n, 0, none⟩) hn _).setNew (p := ⟨n, 1, none⟩) hn _).setNew (p := ⟨n, 2, none⟩) hn _).setNew (p := ⟨n, 3, none⟩) hn _).setNew (p := ⟨n, 4, none⟩) hn _, B.set5⟩

theorem l1_done {n : Nat} {w F : World} {tmps : Array Value} {c : C5} {b : Bool} (B : Box F n (CL c)) (hC : Ext w F) (ha : tmps[8]? = some (.pointer (some ⟨n, 0, none⟩))) (hb : tmps[9]? = some (.bool b)) :
    bodyPost Try.prog Try.f34 (fun e w' => e = .returned (.tuple #[CrV c, .bool b]) ∧ Ext w w') Exit.ret ⟨tmps, []⟩ F := by
  obtain ⟨⟨g0, g1, g2, g3, g4⟩, _⟩ := B.five
  exact bodyPost_ret (v := .tuple #[CrV c, .bool b]) (by simp [results, Try.f34, go_sem, ha, hb, g0, g1, g2, g3, g4]) rfl ⟨rfl, hC⟩
theorem f1_done {n : Nat} {w F : World} {tmps : Array Value} {c : C5} {k : Int} (B : Box F n (CL c)) (hC : Ext w F) (ha : tmps[8]? = some (.pointer (some ⟨n, 0, none⟩))) (hb : tmps[9]? = some (.int .i64 k)) :
    bodyPost Try.prog Try.f16 (fun e w' => e = .returned (.tuple #[CrV c, .int .i64 k]) ∧ Ext w w') Exit.ret ⟨tmps, []⟩ F := by
  obtain ⟨⟨g0, g1, g2, g3, g4⟩, _⟩ := B.five
  exact bodyPost_ret (v := .tuple #[CrV c, .int .i64 k]) (by simp [results, Try.f16, go_sem, ha, hb, g0, g1, g2, g3, g4]) rfl ⟨rfl, hC⟩

/-- Which one is found, and whether. -/
def fdB (cs : List C5) (g f : Int) : Bool := (fcO cs g f).isSome
theorem fd_no {cs : List C5} {g f : Int} (h : ∀ c ∈ cs, isC g f c = false) : fdB cs g f = false := by
  have e : fcO cs g f = none := List.find?_eq_none.2 (fun c hc => by rw [h c hc]; simp)
  unfold fdB; rw [e]; rfl
theorem fd_yes {cs ini : List C5} {c : C5} {g f : Int} (h : ∀ c ∈ ini, isC g f c = false) (hc : isC g f c = true) (hp : ini ++ [c] <+: cs) : fdB cs g f = true := by
  obtain ⟨r, rfl⟩ := hp
  unfold fdB fcO
  rw [List.append_assoc, List.find?_append, List.find?_eq_none.2 (fun c hc => by rw [h c hc]; simp)]
  simp [hc]
theorem fc_of {cs : List C5} {g f : Int} : fcC cs g f = (if fdB cs g f = true then 0 else 4) := rfl
theorem fv_of {cs : List C5} {g f : Int} (h : fdB cs g f = false) : fcV cs g f = ⟨0, 0, 0, 0, 0⟩ := by
  unfold fdB at h
  unfold fcV
  cases e : fcO cs g f
  · rfl
  · rw [e] at h; cases h

def RelFi (w : World) (cs : List C5) (g f : Int) (i : Value) (wr : World) : Prop := ∃ k : Nat, i = .int .i64 k ∧ (∀ c ∈ cs.take k, isC g f c = false) ∧ k ≤ cs.length ∧ Ext w wr

set_option maxRecDepth 100000 in
set_option maxHeartbeats 2000000 in
theorem l05First_spec (a0 : Option Addr) (cap : Nat) (fs : List F3) (a b c d g f : Int) (w : World) (hf : Fxs w a0 fs) (hv : trB fs = true) (hs : sgB a b c d = true) :
    Calls Try.prog 34 #[Tr (.slice a0 fs.length cap), Sg a b c d, .int .i64 g, .int .i64 f] w fun e w' => e = .returned (.tuple #[CrV (fcV (crL fs a b c d (fs.length - 1)) g f), .bool (fdB (crL fs a b c d (fs.length - 1)) g f)]) ∧ Ext w w' := by
  obtain ⟨W0, hW0⟩ : ∃ W0, W0 = ((w.alloc (.cells #[.slice a0 fs.length cap] 26)).alloc (.cells #[.int .i64 a, .int .i64 b, .int .i64 c, .int .i64 d] 30)).alloc (.cells #[.int .i64 0, .int .i64 0, .int .i64 0, .int .i64 0, .int .i64 0] 42) := ⟨_, rfl⟩
  have hX : Ext w W0 := hW0 ▸ (((Ext.refl w).alloc _).alloc _).alloc _
  have c0 : W0.cell? ⟨w.heap.size, 0, none⟩ = some (.slice a0 fs.length cap) := by rw [hW0]; exact (((Ext.refl _).alloc _).alloc _).cellOf (boxed 0 rfl rfl)
  have cl : ∀ i v, (#[.int .i64 a, .int .i64 b, .int .i64 c, .int .i64 d] : Array Value)[i]? = some v → W0.cell? ⟨w.heap.size + 1, i, none⟩ = some v := fun i v hv => by rw [hW0]; exact ((Ext.refl _).alloc _).cellOf (boxed i hv (by simp))
  have c1 : W0.cell? ⟨w.heap.size + 1, 0, none⟩ = some (.int .i64 a) := cl 0 _ rfl
  have c2 : W0.cell? ⟨w.heap.size + 1, 1, none⟩ = some (.int .i64 b) := cl 1 _ rfl
  have c3 : W0.cell? ⟨w.heap.size + 1, 2, none⟩ = some (.int .i64 c) := cl 2 _ rfl
  have c4 : W0.cell? ⟨w.heap.size + 1, 3, none⟩ = some (.int .i64 d) := cl 3 _ rfl
  have bR : Box W0 (w.heap.size + 1 + 1) [.int .i64 0, .int .i64 0, .int .i64 0, .int .i64 0, .int .i64 0] := by rw [hW0]; exact Box.new5 (by simp)
  have HS := Lib.hid (crossings_spec a0 cap fs a b c d W0 (hf.ext hX) hv hs)
  have hlen := crL_len fs a b c d (fs.length - 1)
  have h40 := (trB_yes hv).1
  clear cl hf hv hs
  generalize crL fs a b c d (fs.length - 1) = cs at *
  go_enter Try.func34, Try.ntmps34
  go_wp2_with fail
  rw [← hW0]
  clear hW0
  refine HS.out.mono ?_
  rintro e w3 ⟨v, rfl, hO, hz⟩
  obtain ⟨ar, cp, rfl, hC⟩ := hO.cxs (by unfold maxLen; omega)
  have HC := Lib.hid hC
  have RB := Lib.hid (bR.ext hz)
  have X3 := Lib.hid (hX.trans hz)
  clear hC hO hz c0 c1 c2 c3 c4 bR HS hX
  go_wp2
  go_loopw [11] (fun i wr => RelFi w3 cs g f i wr) (fun i _ => cs.length - (intOf i).toNat)
  case atStart => exact ⟨0, rfl, by simp, Nat.zero_le _, Ext.refl _⟩
  case round =>
    obtain ⟨k, rfl, hn, hk, hx⟩ := hrel
    have HN := Lib.hid hn
    have RB3 := Lib.hid (RB.out.ext hx)
    obtain ⟨⟨r0, r1, r2, r3, r4⟩, s0, s1, s2, s3, s4⟩ := RB3.out.five
    clear hn
    by_cases hlt : k < cs.length
    · obtain ⟨b', off, rfl, hb⟩ := HC.out.row (by omega)
      obtain ⟨d0, d1, d2, d3, d4⟩ := (hb k hlt).ext hx
      have i0 : (0 : Int) ≤ (k : Int) := by omega
      have i1 : (k : Int) < (cs.length : Int) := by omega
      have TK := Lib.hid (take_cx cs k hlt)
      clear hb
      cases hc : isC g f (cx cs k)
      · have HN2 := Lib.hid (fun (x : C5) (hm : x ∈ cs.take (k + 1)) => show isC g f x = false from by
          rw [TK.out] at hm
          rcases List.mem_append.1 hm with hm | hm
          · exact HN.out x hm
          · simp at hm; subst hm; exact hc)
        unfold isC at hc
        cases x1 : ((cx cs k).g == g)
        · go_wp2
          go_roundw
          case rel => exact ⟨k + 1, by go_num, HN2.out, by omega, hx⟩
          case measure => simp [intOf]; omega
        · rw [x1, Bool.true_and] at hc
          go_wp2
          go_roundw
          case rel => exact ⟨k + 1, by go_num, HN2.out, by omega, hx⟩
          case measure => simp [intOf]; omega
      · have hp : cs.take k ++ [cx cs k] <+: cs := by rw [← TK.out]; exact List.take_prefix _ _
        have HV := Lib.hid (fc_yes HN.out hc hp).1
        have HD := Lib.hid (fd_yes HN.out hc hp)
        unfold isC at hc
        rw [Bool.and_eq_true] at hc
        obtain ⟨x1, x2⟩ := hc
        go_wp2
        rw [HV.out, HD.out]
        obtain ⟨h1, h2⟩ := put5_ok (X3.out.trans hx) (by omega) RB3.out (cx cs k)
        exact l1_done h2 h1 rfl rfl
    · obtain rfl : k = cs.length := by omega
      have hn := HN.out
      rw [List.take_length] at hn
      have HV := Lib.hid (fc_no hn).1
      have HD := Lib.hid (fd_no hn)
      clear hn
      go_wp2
      rw [HV.out, HD.out]
      obtain ⟨h1, h2⟩ := put5_ok (X3.out.trans hx) (by omega) RB3.out ⟨0, 0, 0, 0, 0⟩
      exact l1_done h2 h1 rfl rfl

end Go.Proofs.Ytccggjhmnbebbaa.Rwk
