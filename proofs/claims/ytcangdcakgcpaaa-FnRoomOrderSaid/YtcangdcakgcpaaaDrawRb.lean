/- The draws of rooms (chapter 11): l11DrawHulls, DrawInsideBoat, DrawRoomBetween. -/
import Derived.Test.YtcangdcakgcpaaaDrawHt
import Derived.Test.YtcangdcakgcpaaaDrawWd
import Derived.Test.YtcangdcakgcpaaaMks
namespace Go.Proofs.Ytcangdcakgcpaaa.Draw
open Go.ChangeShapes Go.WideShapes Go.ChangeAt Go.RowKit
open Go.Proofs.Ytcangdcakgcpaaa.Num Go.Proofs.Ytcangdcakgcpaaa.Kit Go.Proofs.Ytcangdcakgcpaaa.Pts Go.Proofs.Ytcangdcakgcpaaa.Hul
open Go.Proofs.Ytcangdcakgcpaaa.Crs (MkV)
set_option linter.unusedVariables false
set_option linter.unusedSimpArgs false

abbrev M5c (N : ByteArray) (X Y S Z : Int) : List Value := [.string N, .int .i64 X, .int .i64 Y, .int .i64 S, .int .i64 Z]
abbrev nm1 : ByteArray := ⟨#[109]⟩
/-- A mark and two hulls come out. -/
def AHm (B : Nat) (w : World) (e : Ending) (w' : World) : Prop := ∃ (N : ByteArray) (X Y S Z a b c d n p q u v m : Int), e = .returned (.tuple #[MkV N X Y S Z, Hv a b c d n, Hv p q u v m]) ∧ Src w' B ∧ Chg B w w'
def MHu (w : World) (e : Ending) (w' : World) : Prop := ∃ (N : ByteArray) (X Y S Z a b c d n p q u v m : Int), e = .returned (.tuple #[MkV N X Y S Z, Hv a b c d n, Hv p q u v m]) ∧ Ext w w'
def WMHu (w : World) (e : Ending) (w' : World) : Prop := ∃ (x y : Int) (N : ByteArray) (X Y S Z a b c d n p q u v m : Int), e = .returned (.tuple #[Pt x y, MkV N X Y S Z, Hv a b c d n, Hv p q u v m]) ∧ Ext w w'
theorem hm_done {B n : Nat} {w F : World} {tmps : Array Value} {N : ByteArray} {X Y S Z a b c d k p q u v l : Int} (M : Box F n (M5c N X Y S Z)) (R : Box F (n + 1) (H5 a b c d k)) (T : Box F (n + 1 + 1) (H5 p q u v l)) (h1 : tmps[2]? = some (.pointer (some ⟨n, 0, none⟩))) (h2 : tmps[3]? = some (.pointer (some ⟨n + 1, 0, none⟩))) (h3 : tmps[4]? = some (.pointer (some ⟨n + 1 + 1, 0, none⟩))) (hs : Src F B) (hC : Chg B w F) :
    bodyPost Try.prog Try.f59 (AHm B w) Exit.ret ⟨tmps, []⟩ F := by
  obtain ⟨⟨m0, m1, m2, m3, m4⟩, _⟩ := M.five
  obtain ⟨⟨g0, g1, g2, g3, g4⟩, _⟩ := R.five
  obtain ⟨⟨k0, k1, k2, k3, k4⟩, _⟩ := T.five
  exact bodyPost_ret (v := .tuple #[MkV N X Y S Z, Hv a b c d k, Hv p q u v l]) (by simp [results, Try.results59, go_sem, h1, h2, h3, m0, m1, m2, m3, m4, g0, g1, g2, g3, g4, k0, k1, k2, k3, k4]) rfl ⟨N, X, Y, S, Z, a, b, c, d, k, p, q, u, v, l, rfl, hs, hC⟩
/-- These boxes stand, and maybe others. -/
def SBX (w : World) (B : Nat) (L : List (Nat × List Value)) (x : World) : Prop := ∃ L', BX w B (L ++ L') x
abbrev zM : List Value := M5c ⟨#[]⟩ 0 0 0 0

/-- While the three results are stored. -/
def F8 (w : World) (B n k g : Nat) (A C M : List Value) (x : World) : Prop := ∃ x0 x1 x2 x3 x4 y0 y1 y2 y3 y4 z0 z1 z2 z3 z4, BX w B [(n, [x0, x1, x2, x3, x4]), (n + 1, [y0, y1, y2, y3, y4]), (n + 1 + 1, [z0, z1, z2, z3, z4]), (k, A), (k + 1, C), (g, M)] x
theorem F8.mk {w : World} {B n k g : Nat} {A C M : List Value} {x : World} {x0 x1 x2 x3 x4 y0 y1 y2 y3 y4 z0 z1 z2 z3 z4 : Value} (h : BX w B [(n, [x0, x1, x2, x3, x4]), (n + 1, [y0, y1, y2, y3, y4]), (n + 1 + 1, [z0, z1, z2, z3, z4]), (k, A), (k + 1, C), (g, M)] x) : F8 w B n k g A C M x := ⟨_, _, _, _, _, _, _, _, _, _, _, _, _, _, _, h⟩
theorem F8.cell3 {w : World} {B n k g : Nat} {A C M : List Value} {x : World} (h : F8 w B n k g A C M x) (j : Nat) {v : Value} (hj : A[j]? = some v) : x.cell? ⟨k, j, none⟩ = some v := by
  obtain ⟨_, _, _, _, _, _, _, _, _, _, _, _, _, _, _, h⟩ := h
  exact h.cell 3 j rfl hj
theorem F8.cell4 {w : World} {B n k g : Nat} {A C M : List Value} {x : World} (h : F8 w B n k g A C M x) (j : Nat) {v : Value} (hj : C[j]? = some v) : x.cell? ⟨k + 1, j, none⟩ = some v := by
  obtain ⟨_, _, _, _, _, _, _, _, _, _, _, _, _, _, _, h⟩ := h
  exact h.cell 4 j rfl hj
theorem F8.cell5 {w : World} {B n k g : Nat} {A C M : List Value} {x : World} (h : F8 w B n k g A C M x) (j : Nat) {v : Value} (hj : M[j]? = some v) : x.cell? ⟨g, j, none⟩ = some v := by
  obtain ⟨_, _, _, _, _, _, _, _, _, _, _, _, _, _, _, h⟩ := h
  exact h.cell 5 j rfl hj

set_option maxRecDepth 100000 in
set_option maxHeartbeats 8000000 in
theorem drawHm_any (B : Nat) (w : World) (hs : Src w B) : Calls Try.prog 59 #[.pointer (some ⟨B, 0, none⟩)] w (AHm B w) := by
  have hB := hs.lt
  obtain ⟨W0, hW0⟩ : ∃ W0, W0 = ((w.alloc (.cells #[.string ⟨#[]⟩, .int .i64 0, .int .i64 0, .int .i64 0, .int .i64 0] 45)).alloc (.cells #[.int .i64 0, .int .i64 0, .int .i64 0, .int .i64 0, .int .i64 0] 39)).alloc (.cells #[.int .i64 0, .int .i64 0, .int .i64 0, .int .i64 0, .int .i64 0] 39) := ⟨_, rfl⟩
  have X0 : BX w B [(w.heap.size, zM), (w.heap.size + 1, H5 0 0 0 0 0), (w.heap.size + 1 + 1, H5 0 0 0 0 0)] W0 := hW0 ▸ (((BX.nil w B).add zM 45 rfl (by omega)).add (H5 0 0 0 0 0) 39 (by simp) (by omega)).add (H5 0 0 0 0 0) 39 (by simp) (by omega)
  have zW : W0.heap.size = w.heap.size + 1 + 1 + 1 := by rw [hW0]; simp
  have hs0 : Src W0 B := hW0 ▸ ((hs.alloc _).alloc _).alloc _
  clear hs
  go_enter Try.func59, Try.ntmps59
  go_wp2_with fail
  rw [← hW0]
  clear hW0
  refine (drawTwo_any B _ hs0).mono ?_
  rintro e w2 ⟨a, b, c, d, l, p, q, u, v, k, rfl, hs2, hc⟩
  have X2 := X0.step hc
  have hlt2 : w.heap.size + 1 + 1 < w2.heap.size := by have := hc.size; omega
  clear hc hs0 X0
  have hB2 := hs2.lt
  obtain ⟨W3, hW3⟩ : ∃ W3, W3 = (w2.alloc (.cells #[.int .i64 a, .int .i64 b, .int .i64 c, .int .i64 d, .int .i64 l] 39)).alloc (.cells #[.int .i64 p, .int .i64 q, .int .i64 u, .int .i64 v, .int .i64 k] 39) := ⟨_, rfl⟩
  have X3 : BX w B [(w.heap.size, zM), (w.heap.size + 1, H5 0 0 0 0 0), (w.heap.size + 1 + 1, H5 0 0 0 0 0), (w2.heap.size, H5 a b c d l), (w2.heap.size + 1, H5 p q u v k)] W3 := hW3 ▸ (X2.add (H5 a b c d l) 39 rfl (by omega)).add (H5 p q u v k) 39 (by simp) (by omega)
  have hs3 : Src W3 B := hW3 ▸ (hs2.alloc _).alloc _
  have hW3' := hW3
  clear hs2 X2
  go_upto_region 2 with fail
  rw [← hW3]
  clear hW3
  have hz3 : w2.heap.size + 1 < W3.heap.size := by rw [hW3']; simp
  have hh : w.heap.size + 1 + 1 < w2.heap.size := hlt2
  clear hW3'
  generalize hk : w2.heap.size = h at *
  clear hk
  have hlt := hs3.lt
  have hgt : w.heap.size + 1 + 1 < h := hh
  have f0 : ∀ x, SBX w B [(w.heap.size, zM), (w.heap.size + 1, H5 0 0 0 0 0), (w.heap.size + 1 + 1, H5 0 0 0 0 0), (h, H5 a b c d l), (h + 1, H5 p q u v k)] x → x.cell? ⟨h, 0, none⟩ = some (.int .i64 a) := fun x hx => by obtain ⟨_, hx⟩ := hx; exact hx.cell 3 0 rfl rfl
  have f1 : ∀ x, SBX w B [(w.heap.size, zM), (w.heap.size + 1, H5 0 0 0 0 0), (w.heap.size + 1 + 1, H5 0 0 0 0 0), (h, H5 a b c d l), (h + 1, H5 p q u v k)] x → x.cell? ⟨h, 1, none⟩ = some (.int .i64 b) := fun x hx => by obtain ⟨_, hx⟩ := hx; exact hx.cell 3 1 rfl rfl
  go_cut [7] (fun s wx => ∃ (g : Nat) (PX PY : Int), s = .pointer (some ⟨g, 0, none⟩) ∧ h + 1 < g ∧ BX w B [(w.heap.size, zM), (w.heap.size + 1, H5 0 0 0 0 0), (w.heap.size + 1 + 1, H5 0 0 0 0 0), (h, H5 a b c d l), (h + 1, H5 p q u v k), (g, M5c nm1 PX PY 1 100)] wx ∧ Src wx B)
  case first =>
    have XD : BX w B ([(w.heap.size, zM), (w.heap.size + 1, H5 0 0 0 0 0), (w.heap.size + 1 + 1, H5 0 0 0 0 0), (h, H5 a b c d l), (h + 1, H5 p q u v k)] ++ []) W3.drew := X3.drew
    have hsD := hs3.drew
    have hz3 : h + 1 < W3.drew.heap.size := by simpa using hz3
    refine wp_region_held_drew (S := (SBX w B [(w.heap.size, zM), (w.heap.size + 1, H5 0 0 0 0 0), (w.heap.size + 1 + 1, H5 0 0 0 0 0), (h, H5 a b c d l), (h + 1, H5 p q u v k)])) (by kernel_rfl) (by (try dsimp only); exact ⟨[], XD⟩) (fun hHeld => ?_)
    generalize W3.drew = wd at *
    refine Ord.K 0 13 ?_; refine Ord.K 1 14 ?_; refine Ord.K 2 15 ?_; refine Ord.K 3 16 ?_; refine Ord.K 7 20 ?_; refine Ord.K 8 21 ?_; refine Ord.K 9 22 ?_; refine Ord.K 10 23 ?_
    refine wpAnyH_ready (rs := [4, 16]) (by kernel_rfl) (by simp) ?_
    refine (AllReadyH.cons rfl (fun K hK => ?_) (AllReadyH.cons rfl (fun K hK => ?_) AllReadyH.nil))
    · go_simp
      go_at_call 47
      refine (next_pos B _ _ hsD (by omega)).mono ?_
      rintro e v1 ⟨r, rfl, r0, r1, hsN, hc⟩
      go_wp2_with fail
      have hzc := hc.size
      replace XD := XD.step hc
      refine hK.out _ _ ⟨_, XD⟩ (fun hHeld => ?_)
      clear hK K hc hsD
      have hsD := hsN
      clear hsN
      (try simp only [Act.put, Ord.a, Ord.b, Ord.c])
      refine Ord.K 5 18 ?_; refine Ord.K 6 19 ?_
      obtain ⟨z1, hz1⟩ : ∃ z, z = IntKind.i64.wrap (IntKind.i64.wrap (a + r) - 100) := ⟨_, rfl⟩
      simp only [← hz1]
      clear hz1 r0 r1
      refine wpAnyH_ready (rs := [11, 16]) (by kernel_rfl) (by simp) ?_
      refine (AllReadyH.cons rfl (fun K hK => ?_) (AllReadyH.cons rfl (fun K hK => ?_) AllReadyH.nil))
      · go_simp
        go_at_call 47
        refine (next_pos B _ _ hsD (by omega)).mono ?_
        rintro e v2 ⟨r, rfl, r0, r1, hsN, hc⟩
        go_wp2_with fail
        have hzc := hc.size
        replace XD := XD.step hc
        refine hK.out _ _ ⟨_, XD⟩ (fun hHeld => ?_)
        clear hK K hc hsD
        have hsD := hsN
        clear hsN
        (try simp only [Act.put, Ord.a, Ord.b, Ord.c])
        refine Ord.K 12 25 ?_; refine Ord.K 13 26 ?_
        obtain ⟨y1, hy1⟩ : ∃ z, z = IntKind.i64.wrap (IntKind.i64.wrap (b + r) - 100) := ⟨_, rfl⟩
        simp only [← hy1]
        clear hy1 r0 r1
        refine Ord.K 14 27 ?_; refine Ord.K 15 28 ?_
        refine wpAnyH_ready (rs := [16]) (by kernel_rfl) (by simp) ?_
        refine (AllReadyH.cons rfl (fun K hK => ?_) AllReadyH.nil)
        go_simp
        have XE : BX w B ([(w.heap.size, zM), (w.heap.size + 1, H5 0 0 0 0 0), (w.heap.size + 1 + 1, H5 0 0 0 0 0), (h, H5 a b c d l), (h + 1, H5 p q u v k)] ++ [(v2.heap.size, zM)]) (v2.alloc (.cells #[.string ⟨#[]⟩, .int .i64 0, .int .i64 0, .int .i64 0, .int .i64 0] 45)) := XD.add zM 45 rfl (by have := hsD.lt; omega)
        refine hK.out _ _ ⟨_, XE⟩ (fun hHeld => ?_)
        clear hK K XD
        (try simp only [Act.put, Ord.a, Ord.b, Ord.c])
        have hsN := hsD.alloc (.cells #[.string ⟨#[]⟩, .int .i64 0, .int .i64 0, .int .i64 0, .int .i64 0] 45)
        have hg1 : h + 1 < v2.heap.size := by omega
        have hg2 : B < v2.heap.size := hsD.lt
        have hg3 : v2.heap.size < (v2.alloc (.cells #[.string ⟨#[]⟩, .int .i64 0, .int .i64 0, .int .i64 0, .int .i64 0] 45)).heap.size := by simp
        clear hsD
        have hsD := hsN
        have XD := XE
        clear hsN XE
        generalize v2.alloc (.cells #[.string ⟨#[]⟩, .int .i64 0, .int .i64 0, .int .i64 0, .int .i64 0] 45) = v3 at *
        generalize v2.heap.size = g at *
        refine wpAnyH_ready (rs := [17]) (by kernel_rfl) (by simp) ?_
        refine (AllReadyH.cons rfl (fun K hK => ?_) AllReadyH.nil)
        obtain ⟨⟨r0, r1, r2, r3, r4⟩, s0, s1, s2, s3, s4⟩ := (XD.box 5 _ rfl).five
        go_simp
        have XE := put5 XD 5 rfl (.string nm1) (.int .i64 z1) (.int .i64 y1) (.int .i64 1) (.int .i64 100)
        have hsE := src5 hsD (n := g) hg2 (.string nm1) (.int .i64 z1) (.int .i64 y1) (.int .i64 1) (.int .i64 100)
        refine hK.out _ _ ⟨[(g, M5c nm1 z1 y1 1 100)], XE⟩ (fun hHeld => ?_)
        clear hK K r0 r1 r2 r3 r4 s0 s1 s2 s3 s4
        (try simp only [Act.put, Ord.a, Ord.b, Ord.c])
        refine wpAnyH_done (by kernel_rfl) ?_ _
        go_wp2_with fail
        go_meet
        exact ⟨g, z1, y1, rfl, hg1, XE, hsE⟩
      · go_simp
        have XE : BX w B ([(w.heap.size, zM), (w.heap.size + 1, H5 0 0 0 0 0), (w.heap.size + 1 + 1, H5 0 0 0 0 0), (h, H5 a b c d l), (h + 1, H5 p q u v k)] ++ [(v1.heap.size, zM)]) (v1.alloc (.cells #[.string ⟨#[]⟩, .int .i64 0, .int .i64 0, .int .i64 0, .int .i64 0] 45)) := XD.add zM 45 rfl (by have := hsD.lt; omega)
        refine hK.out _ _ ⟨_, XE⟩ (fun hHeld => ?_)
        clear hK K XD
        (try simp only [Act.put, Ord.a, Ord.b, Ord.c])
        have hsN := hsD.alloc (.cells #[.string ⟨#[]⟩, .int .i64 0, .int .i64 0, .int .i64 0, .int .i64 0] 45)
        have hg1 : h + 1 < v1.heap.size := by omega
        have hg2 : B < v1.heap.size := hsD.lt
        have hg3 : v1.heap.size < (v1.alloc (.cells #[.string ⟨#[]⟩, .int .i64 0, .int .i64 0, .int .i64 0, .int .i64 0] 45)).heap.size := by simp
        clear hsD
        have hsD := hsN
        have XD := XE
        clear hsN XE
        generalize v1.alloc (.cells #[.string ⟨#[]⟩, .int .i64 0, .int .i64 0, .int .i64 0, .int .i64 0] 45) = v2 at *
        generalize v1.heap.size = g at *
        refine wpAnyH_ready (rs := [11]) (by kernel_rfl) (by simp) ?_
        refine (AllReadyH.cons rfl (fun K hK => ?_) AllReadyH.nil)
        go_simp
        go_at_call 47
        refine (next_pos B _ _ hsD (by omega)).mono ?_
        rintro e v3 ⟨r, rfl, r0, r1, hsN, hc⟩
        go_wp2_with fail
        have hzc := hc.size
        replace XD := XD.step hc
        refine hK.out _ _ ⟨_, XD⟩ (fun hHeld => ?_)
        clear hK K hc hsD
        have hsD := hsN
        clear hsN
        (try simp only [Act.put, Ord.a, Ord.b, Ord.c])
        refine Ord.K 12 25 ?_; refine Ord.K 13 26 ?_
        obtain ⟨y1, hy1⟩ : ∃ z, z = IntKind.i64.wrap (IntKind.i64.wrap (b + r) - 100) := ⟨_, rfl⟩
        simp only [← hy1]
        clear hy1 r0 r1
        refine Ord.K 14 27 ?_; refine Ord.K 15 28 ?_
        refine wpAnyH_ready (rs := [17]) (by kernel_rfl) (by simp) ?_
        refine (AllReadyH.cons rfl (fun K hK => ?_) AllReadyH.nil)
        obtain ⟨⟨r0, r1, r2, r3, r4⟩, s0, s1, s2, s3, s4⟩ := (XD.box 5 _ rfl).five
        go_simp
        have XE := put5 XD 5 rfl (.string nm1) (.int .i64 z1) (.int .i64 y1) (.int .i64 1) (.int .i64 100)
        have hsE := src5 hsD (n := g) hg2 (.string nm1) (.int .i64 z1) (.int .i64 y1) (.int .i64 1) (.int .i64 100)
        refine hK.out _ _ ⟨[(g, M5c nm1 z1 y1 1 100)], XE⟩ (fun hHeld => ?_)
        clear hK K r0 r1 r2 r3 r4 s0 s1 s2 s3 s4
        (try simp only [Act.put, Ord.a, Ord.b, Ord.c])
        refine wpAnyH_done (by kernel_rfl) ?_ _
        go_wp2_with fail
        go_meet
        exact ⟨g, z1, y1, rfl, hg1, XE, hsE⟩
    · go_simp
      have XE : BX w B ([(w.heap.size, zM), (w.heap.size + 1, H5 0 0 0 0 0), (w.heap.size + 1 + 1, H5 0 0 0 0 0), (h, H5 a b c d l), (h + 1, H5 p q u v k)] ++ [(wd.heap.size, zM)]) (wd.alloc (.cells #[.string ⟨#[]⟩, .int .i64 0, .int .i64 0, .int .i64 0, .int .i64 0] 45)) := XD.add zM 45 rfl (by have := hsD.lt; omega)
      refine hK.out _ _ ⟨_, XE⟩ (fun hHeld => ?_)
      clear hK K XD
      (try simp only [Act.put, Ord.a, Ord.b, Ord.c])
      have hsN := hsD.alloc (.cells #[.string ⟨#[]⟩, .int .i64 0, .int .i64 0, .int .i64 0, .int .i64 0] 45)
      have hg1 : h + 1 < wd.heap.size := by omega
      have hg2 : B < wd.heap.size := hsD.lt
      have hg3 : wd.heap.size < (wd.alloc (.cells #[.string ⟨#[]⟩, .int .i64 0, .int .i64 0, .int .i64 0, .int .i64 0] 45)).heap.size := by simp
      clear hsD
      have hsD := hsN
      have XD := XE
      clear hsN XE
      generalize wd.alloc (.cells #[.string ⟨#[]⟩, .int .i64 0, .int .i64 0, .int .i64 0, .int .i64 0] 45) = v1 at *
      generalize wd.heap.size = g at *
      refine wpAnyH_ready (rs := [4]) (by kernel_rfl) (by simp) ?_
      refine (AllReadyH.cons rfl (fun K hK => ?_) AllReadyH.nil)
      go_simp
      go_at_call 47
      refine (next_pos B _ _ hsD (by omega)).mono ?_
      rintro e v2 ⟨r, rfl, r0, r1, hsN, hc⟩
      go_wp2_with fail
      have hzc := hc.size
      replace XD := XD.step hc
      refine hK.out _ _ ⟨_, XD⟩ (fun hHeld => ?_)
      clear hK K hc hsD
      have hsD := hsN
      clear hsN
      (try simp only [Act.put, Ord.a, Ord.b, Ord.c])
      refine Ord.K 5 18 ?_; refine Ord.K 6 19 ?_
      obtain ⟨z1, hz1⟩ : ∃ z, z = IntKind.i64.wrap (IntKind.i64.wrap (a + r) - 100) := ⟨_, rfl⟩
      simp only [← hz1]
      clear hz1 r0 r1
      refine wpAnyH_ready (rs := [11]) (by kernel_rfl) (by simp) ?_
      refine (AllReadyH.cons rfl (fun K hK => ?_) AllReadyH.nil)
      go_simp
      go_at_call 47
      refine (next_pos B _ _ hsD (by omega)).mono ?_
      rintro e v3 ⟨r, rfl, r0, r1, hsN, hc⟩
      go_wp2_with fail
      have hzc := hc.size
      replace XD := XD.step hc
      refine hK.out _ _ ⟨_, XD⟩ (fun hHeld => ?_)
      clear hK K hc hsD
      have hsD := hsN
      clear hsN
      (try simp only [Act.put, Ord.a, Ord.b, Ord.c])
      refine Ord.K 12 25 ?_; refine Ord.K 13 26 ?_
      obtain ⟨y1, hy1⟩ : ∃ z, z = IntKind.i64.wrap (IntKind.i64.wrap (b + r) - 100) := ⟨_, rfl⟩
      simp only [← hy1]
      clear hy1 r0 r1
      refine Ord.K 14 27 ?_; refine Ord.K 15 28 ?_
      refine wpAnyH_ready (rs := [17]) (by kernel_rfl) (by simp) ?_
      refine (AllReadyH.cons rfl (fun K hK => ?_) AllReadyH.nil)
      obtain ⟨⟨r0, r1, r2, r3, r4⟩, s0, s1, s2, s3, s4⟩ := (XD.box 5 _ rfl).five
      go_simp
      have XE := put5 XD 5 rfl (.string nm1) (.int .i64 z1) (.int .i64 y1) (.int .i64 1) (.int .i64 100)
      have hsE := src5 hsD (n := g) hg2 (.string nm1) (.int .i64 z1) (.int .i64 y1) (.int .i64 1) (.int .i64 100)
      refine hK.out _ _ ⟨[(g, M5c nm1 z1 y1 1 100)], XE⟩ (fun hHeld => ?_)
      clear hK K r0 r1 r2 r3 r4 s0 s1 s2 s3 s4
      (try simp only [Act.put, Ord.a, Ord.b, Ord.c])
      refine wpAnyH_done (by kernel_rfl) ?_ _
      go_wp2_with fail
      go_meet
      exact ⟨g, z1, y1, rfl, hg1, XE, hsE⟩
  case rest =>
    obtain ⟨g, PX, PY, rfl, hg1, X5, hs5⟩ := hcut
    rename World => w5
    clear X3 hs3 f0 f1 hz3
    go_wp2_with fail
    refine (next_pos B _ _ hs5 (by omega)).mono ?_
    rintro e w6 ⟨r3, rfl, r30, r31, hs6, hc⟩
    have X6 := X5.step hc
    clear hc hs5 X5
    by_cases h0 : r3 = 0
    · have t0 : (r3 == 0) = true := beq_iff_eq.2 h0
      clear h0
      obtain ⟨⟨_, q1, _, _, _⟩, _, o1, _, _, _⟩ := (X6.box 5 _ rfl).five
      obtain ⟨W7, hW7⟩ : ∃ W7, W7 = w6.setCell ⟨g, 1, none⟩ (.int .i64 1000001) := ⟨_, rfl⟩
      have X7 := hW7 ▸ X6.put 5 1 rfl (by simp) (.int .i64 1000001)
      have hs7 : Src W7 B := hW7 ▸ hs6.setCell (by simp; omega) _
      go_upto_region 8 with fail
      rw [← hW7]
      clear hW7 X6 hs6 q1 o1
      have f50 : ∀ x, F8 w B w.heap.size h g (H5 a b c d l) (H5 p q u v k) (M5c nm1 1000001 PY 1 100) x → x.cell? ⟨g, 0, none⟩ = some (.string nm1) := fun x h => h.cell5 0 rfl
      have f51 : ∀ x, F8 w B w.heap.size h g (H5 a b c d l) (H5 p q u v k) (M5c nm1 1000001 PY 1 100) x → x.cell? ⟨g, 1, none⟩ = some (.int .i64 1000001) := fun x h => h.cell5 1 rfl
      have f52 : ∀ x, F8 w B w.heap.size h g (H5 a b c d l) (H5 p q u v k) (M5c nm1 1000001 PY 1 100) x → x.cell? ⟨g, 2, none⟩ = some (.int .i64 PY) := fun x h => h.cell5 2 rfl
      have f53 : ∀ x, F8 w B w.heap.size h g (H5 a b c d l) (H5 p q u v k) (M5c nm1 1000001 PY 1 100) x → x.cell? ⟨g, 3, none⟩ = some (.int .i64 1) := fun x h => h.cell5 3 rfl
      have f54 : ∀ x, F8 w B w.heap.size h g (H5 a b c d l) (H5 p q u v k) (M5c nm1 1000001 PY 1 100) x → x.cell? ⟨g, 4, none⟩ = some (.int .i64 100) := fun x h => h.cell5 4 rfl
      have f30 : ∀ x, F8 w B w.heap.size h g (H5 a b c d l) (H5 p q u v k) (M5c nm1 1000001 PY 1 100) x → x.cell? ⟨h, 0, none⟩ = some (.int .i64 a) := fun x h => h.cell3 0 rfl
      have f31 : ∀ x, F8 w B w.heap.size h g (H5 a b c d l) (H5 p q u v k) (M5c nm1 1000001 PY 1 100) x → x.cell? ⟨h, 1, none⟩ = some (.int .i64 b) := fun x h => h.cell3 1 rfl
      have f32 : ∀ x, F8 w B w.heap.size h g (H5 a b c d l) (H5 p q u v k) (M5c nm1 1000001 PY 1 100) x → x.cell? ⟨h, 2, none⟩ = some (.int .i64 c) := fun x h => h.cell3 2 rfl
      have f33 : ∀ x, F8 w B w.heap.size h g (H5 a b c d l) (H5 p q u v k) (M5c nm1 1000001 PY 1 100) x → x.cell? ⟨h, 3, none⟩ = some (.int .i64 d) := fun x h => h.cell3 3 rfl
      have f34 : ∀ x, F8 w B w.heap.size h g (H5 a b c d l) (H5 p q u v k) (M5c nm1 1000001 PY 1 100) x → x.cell? ⟨h, 4, none⟩ = some (.int .i64 l) := fun x h => h.cell3 4 rfl
      have f40 : ∀ x, F8 w B w.heap.size h g (H5 a b c d l) (H5 p q u v k) (M5c nm1 1000001 PY 1 100) x → x.cell? ⟨h + 1, 0, none⟩ = some (.int .i64 p) := fun x h => h.cell4 0 rfl
      have f41 : ∀ x, F8 w B w.heap.size h g (H5 a b c d l) (H5 p q u v k) (M5c nm1 1000001 PY 1 100) x → x.cell? ⟨h + 1, 1, none⟩ = some (.int .i64 q) := fun x h => h.cell4 1 rfl
      have f42 : ∀ x, F8 w B w.heap.size h g (H5 a b c d l) (H5 p q u v k) (M5c nm1 1000001 PY 1 100) x → x.cell? ⟨h + 1, 2, none⟩ = some (.int .i64 u) := fun x h => h.cell4 2 rfl
      have f43 : ∀ x, F8 w B w.heap.size h g (H5 a b c d l) (H5 p q u v k) (M5c nm1 1000001 PY 1 100) x → x.cell? ⟨h + 1, 3, none⟩ = some (.int .i64 v) := fun x h => h.cell4 3 rfl
      have f44 : ∀ x, F8 w B w.heap.size h g (H5 a b c d l) (H5 p q u v k) (M5c nm1 1000001 PY 1 100) x → x.cell? ⟨h + 1, 4, none⟩ = some (.int .i64 k) := fun x h => h.cell4 4 rfl
      go_upto_region 8 with fail
      have XD := X7.drew
      have hsD := hs7.drew
      refine wp_region_held_drew (S := (F8 w B w.heap.size h g (H5 a b c d l) (H5 p q u v k) (M5c nm1 1000001 PY 1 100))) (by kernel_rfl) (by (try dsimp only); exact F8.mk XD) (fun hHeld => ?_)
      generalize W7.drew = wd at *
      refine Ord.K 0 38 ?_; refine Ord.K 1 39 ?_; refine Ord.K 2 40 ?_
      obtain ⟨⟨r0, r1, r2, r3, r4⟩, s0, s1, s2, s3, s4⟩ := (XD.box 0 _ rfl).five
      refine wpAnyH_ready (rs := [3]) (by kernel_rfl) (by simp) ?_
      refine AllReadyH.cons rfl (fun K hK => ?_) AllReadyH.nil
      go_simp
      replace XD := put5 XD 0 rfl (.string nm1) (.int .i64 1000001) (.int .i64 PY) (.int .i64 1) (.int .i64 100)
      replace hsD := src5 hsD (n := w.heap.size) (by omega) (.string nm1) (.int .i64 1000001) (.int .i64 PY) (.int .i64 1) (.int .i64 100)
      refine hK.out _ _ (F8.mk XD) (fun hHeld => ?_)
      clear hK K r0 r1 r2 r3 r4 s0 s1 s2 s3 s4
      (try simp only [Act.put, Ord.a, Ord.b, Ord.c])
      obtain ⟨⟨r0, r1, r2, r3, r4⟩, s0, s1, s2, s3, s4⟩ := (XD.box 1 _ rfl).five
      refine wpAnyH_ready (rs := [4]) (by kernel_rfl) (by simp) ?_
      refine AllReadyH.cons rfl (fun K hK => ?_) AllReadyH.nil
      go_simp
      replace XD := put5 XD 1 rfl (.int .i64 a) (.int .i64 b) (.int .i64 c) (.int .i64 d) (.int .i64 l)
      replace hsD := src5 hsD (n := w.heap.size + 1) (by omega) (.int .i64 a) (.int .i64 b) (.int .i64 c) (.int .i64 d) (.int .i64 l)
      refine hK.out _ _ (F8.mk XD) (fun hHeld => ?_)
      clear hK K r0 r1 r2 r3 r4 s0 s1 s2 s3 s4
      (try simp only [Act.put, Ord.a, Ord.b, Ord.c])
      obtain ⟨⟨r0, r1, r2, r3, r4⟩, s0, s1, s2, s3, s4⟩ := (XD.box 2 _ rfl).five
      refine wpAnyH_ready (rs := [5]) (by kernel_rfl) (by simp) ?_
      refine AllReadyH.cons rfl (fun K hK => ?_) AllReadyH.nil
      go_simp
      replace XD := put5 XD 2 rfl (.int .i64 p) (.int .i64 q) (.int .i64 u) (.int .i64 v) (.int .i64 k)
      replace hsD := src5 hsD (n := w.heap.size + 1 + 1) (by omega) (.int .i64 p) (.int .i64 q) (.int .i64 u) (.int .i64 v) (.int .i64 k)
      refine hK.out _ _ (F8.mk XD) (fun hHeld => ?_)
      clear hK K r0 r1 r2 r3 r4 s0 s1 s2 s3 s4
      (try simp only [Act.put, Ord.a, Ord.b, Ord.c])
      refine wpAnyH_done (by kernel_rfl) ?_ _
      go_wp2
      exact hm_done (XD.box 0 _ rfl) (XD.box 1 _ rfl) (XD.box 2 _ rfl) rfl rfl rfl hsD XD.chg
    have t0 : (r3 == 0) = false := beq_eq_false_iff_ne.2 h0
    clear h0
    by_cases h1 : r3 = 1
    · have t1 : (r3 == 1) = true := beq_iff_eq.2 h1
      clear h1
      obtain ⟨⟨_, _, _, _, q4⟩, _, _, _, _, o4⟩ := (X6.box 4 _ rfl).five
      obtain ⟨W7, hW7⟩ : ∃ W7, W7 = w6.setCell ⟨h + 1, 4, none⟩ (.int .i64 0) := ⟨_, rfl⟩
      have X7 := hW7 ▸ X6.put 4 4 rfl (by simp) (.int .i64 0)
      have hs7 : Src W7 B := hW7 ▸ hs6.setCell (by simp; omega) _
      go_upto_region 8 with fail
      rw [← hW7]
      clear hW7 X6 hs6 q4 o4
      have f50 : ∀ x, F8 w B w.heap.size h g (H5 a b c d l) (H5 p q u v 0) (M5c nm1 PX PY 1 100) x → x.cell? ⟨g, 0, none⟩ = some (.string nm1) := fun x h => h.cell5 0 rfl
      have f51 : ∀ x, F8 w B w.heap.size h g (H5 a b c d l) (H5 p q u v 0) (M5c nm1 PX PY 1 100) x → x.cell? ⟨g, 1, none⟩ = some (.int .i64 PX) := fun x h => h.cell5 1 rfl
      have f52 : ∀ x, F8 w B w.heap.size h g (H5 a b c d l) (H5 p q u v 0) (M5c nm1 PX PY 1 100) x → x.cell? ⟨g, 2, none⟩ = some (.int .i64 PY) := fun x h => h.cell5 2 rfl
      have f53 : ∀ x, F8 w B w.heap.size h g (H5 a b c d l) (H5 p q u v 0) (M5c nm1 PX PY 1 100) x → x.cell? ⟨g, 3, none⟩ = some (.int .i64 1) := fun x h => h.cell5 3 rfl
      have f54 : ∀ x, F8 w B w.heap.size h g (H5 a b c d l) (H5 p q u v 0) (M5c nm1 PX PY 1 100) x → x.cell? ⟨g, 4, none⟩ = some (.int .i64 100) := fun x h => h.cell5 4 rfl
      have f30 : ∀ x, F8 w B w.heap.size h g (H5 a b c d l) (H5 p q u v 0) (M5c nm1 PX PY 1 100) x → x.cell? ⟨h, 0, none⟩ = some (.int .i64 a) := fun x h => h.cell3 0 rfl
      have f31 : ∀ x, F8 w B w.heap.size h g (H5 a b c d l) (H5 p q u v 0) (M5c nm1 PX PY 1 100) x → x.cell? ⟨h, 1, none⟩ = some (.int .i64 b) := fun x h => h.cell3 1 rfl
      have f32 : ∀ x, F8 w B w.heap.size h g (H5 a b c d l) (H5 p q u v 0) (M5c nm1 PX PY 1 100) x → x.cell? ⟨h, 2, none⟩ = some (.int .i64 c) := fun x h => h.cell3 2 rfl
      have f33 : ∀ x, F8 w B w.heap.size h g (H5 a b c d l) (H5 p q u v 0) (M5c nm1 PX PY 1 100) x → x.cell? ⟨h, 3, none⟩ = some (.int .i64 d) := fun x h => h.cell3 3 rfl
      have f34 : ∀ x, F8 w B w.heap.size h g (H5 a b c d l) (H5 p q u v 0) (M5c nm1 PX PY 1 100) x → x.cell? ⟨h, 4, none⟩ = some (.int .i64 l) := fun x h => h.cell3 4 rfl
      have f40 : ∀ x, F8 w B w.heap.size h g (H5 a b c d l) (H5 p q u v 0) (M5c nm1 PX PY 1 100) x → x.cell? ⟨h + 1, 0, none⟩ = some (.int .i64 p) := fun x h => h.cell4 0 rfl
      have f41 : ∀ x, F8 w B w.heap.size h g (H5 a b c d l) (H5 p q u v 0) (M5c nm1 PX PY 1 100) x → x.cell? ⟨h + 1, 1, none⟩ = some (.int .i64 q) := fun x h => h.cell4 1 rfl
      have f42 : ∀ x, F8 w B w.heap.size h g (H5 a b c d l) (H5 p q u v 0) (M5c nm1 PX PY 1 100) x → x.cell? ⟨h + 1, 2, none⟩ = some (.int .i64 u) := fun x h => h.cell4 2 rfl
      have f43 : ∀ x, F8 w B w.heap.size h g (H5 a b c d l) (H5 p q u v 0) (M5c nm1 PX PY 1 100) x → x.cell? ⟨h + 1, 3, none⟩ = some (.int .i64 v) := fun x h => h.cell4 3 rfl
      have f44 : ∀ x, F8 w B w.heap.size h g (H5 a b c d l) (H5 p q u v 0) (M5c nm1 PX PY 1 100) x → x.cell? ⟨h + 1, 4, none⟩ = some (.int .i64 0) := fun x h => h.cell4 4 rfl
      go_upto_region 8 with fail
      have XD := X7.drew
      have hsD := hs7.drew
      refine wp_region_held_drew (S := (F8 w B w.heap.size h g (H5 a b c d l) (H5 p q u v 0) (M5c nm1 PX PY 1 100))) (by kernel_rfl) (by (try dsimp only); exact F8.mk XD) (fun hHeld => ?_)
      generalize W7.drew = wd at *
      refine Ord.K 0 38 ?_; refine Ord.K 1 39 ?_; refine Ord.K 2 40 ?_
      obtain ⟨⟨r0, r1, r2, r3, r4⟩, s0, s1, s2, s3, s4⟩ := (XD.box 0 _ rfl).five
      refine wpAnyH_ready (rs := [3]) (by kernel_rfl) (by simp) ?_
      refine AllReadyH.cons rfl (fun K hK => ?_) AllReadyH.nil
      go_simp
      replace XD := put5 XD 0 rfl (.string nm1) (.int .i64 PX) (.int .i64 PY) (.int .i64 1) (.int .i64 100)
      replace hsD := src5 hsD (n := w.heap.size) (by omega) (.string nm1) (.int .i64 PX) (.int .i64 PY) (.int .i64 1) (.int .i64 100)
      refine hK.out _ _ (F8.mk XD) (fun hHeld => ?_)
      clear hK K r0 r1 r2 r3 r4 s0 s1 s2 s3 s4
      (try simp only [Act.put, Ord.a, Ord.b, Ord.c])
      obtain ⟨⟨r0, r1, r2, r3, r4⟩, s0, s1, s2, s3, s4⟩ := (XD.box 1 _ rfl).five
      refine wpAnyH_ready (rs := [4]) (by kernel_rfl) (by simp) ?_
      refine AllReadyH.cons rfl (fun K hK => ?_) AllReadyH.nil
      go_simp
      replace XD := put5 XD 1 rfl (.int .i64 a) (.int .i64 b) (.int .i64 c) (.int .i64 d) (.int .i64 l)
      replace hsD := src5 hsD (n := w.heap.size + 1) (by omega) (.int .i64 a) (.int .i64 b) (.int .i64 c) (.int .i64 d) (.int .i64 l)
      refine hK.out _ _ (F8.mk XD) (fun hHeld => ?_)
      clear hK K r0 r1 r2 r3 r4 s0 s1 s2 s3 s4
      (try simp only [Act.put, Ord.a, Ord.b, Ord.c])
      obtain ⟨⟨r0, r1, r2, r3, r4⟩, s0, s1, s2, s3, s4⟩ := (XD.box 2 _ rfl).five
      refine wpAnyH_ready (rs := [5]) (by kernel_rfl) (by simp) ?_
      refine AllReadyH.cons rfl (fun K hK => ?_) AllReadyH.nil
      go_simp
      replace XD := put5 XD 2 rfl (.int .i64 p) (.int .i64 q) (.int .i64 u) (.int .i64 v) (.int .i64 0)
      replace hsD := src5 hsD (n := w.heap.size + 1 + 1) (by omega) (.int .i64 p) (.int .i64 q) (.int .i64 u) (.int .i64 v) (.int .i64 0)
      refine hK.out _ _ (F8.mk XD) (fun hHeld => ?_)
      clear hK K r0 r1 r2 r3 r4 s0 s1 s2 s3 s4
      (try simp only [Act.put, Ord.a, Ord.b, Ord.c])
      refine wpAnyH_done (by kernel_rfl) ?_ _
      go_wp2
      exact hm_done (XD.box 0 _ rfl) (XD.box 1 _ rfl) (XD.box 2 _ rfl) rfl rfl rfl hsD XD.chg
    · have t1 : (r3 == 1) = false := beq_eq_false_iff_ne.2 h1
      clear h1
      have f50 : ∀ x, F8 w B w.heap.size h g (H5 a b c d l) (H5 p q u v k) (M5c nm1 PX PY 1 100) x → x.cell? ⟨g, 0, none⟩ = some (.string nm1) := fun x h => h.cell5 0 rfl
      have f51 : ∀ x, F8 w B w.heap.size h g (H5 a b c d l) (H5 p q u v k) (M5c nm1 PX PY 1 100) x → x.cell? ⟨g, 1, none⟩ = some (.int .i64 PX) := fun x h => h.cell5 1 rfl
      have f52 : ∀ x, F8 w B w.heap.size h g (H5 a b c d l) (H5 p q u v k) (M5c nm1 PX PY 1 100) x → x.cell? ⟨g, 2, none⟩ = some (.int .i64 PY) := fun x h => h.cell5 2 rfl
      have f53 : ∀ x, F8 w B w.heap.size h g (H5 a b c d l) (H5 p q u v k) (M5c nm1 PX PY 1 100) x → x.cell? ⟨g, 3, none⟩ = some (.int .i64 1) := fun x h => h.cell5 3 rfl
      have f54 : ∀ x, F8 w B w.heap.size h g (H5 a b c d l) (H5 p q u v k) (M5c nm1 PX PY 1 100) x → x.cell? ⟨g, 4, none⟩ = some (.int .i64 100) := fun x h => h.cell5 4 rfl
      have f30 : ∀ x, F8 w B w.heap.size h g (H5 a b c d l) (H5 p q u v k) (M5c nm1 PX PY 1 100) x → x.cell? ⟨h, 0, none⟩ = some (.int .i64 a) := fun x h => h.cell3 0 rfl
      have f31 : ∀ x, F8 w B w.heap.size h g (H5 a b c d l) (H5 p q u v k) (M5c nm1 PX PY 1 100) x → x.cell? ⟨h, 1, none⟩ = some (.int .i64 b) := fun x h => h.cell3 1 rfl
      have f32 : ∀ x, F8 w B w.heap.size h g (H5 a b c d l) (H5 p q u v k) (M5c nm1 PX PY 1 100) x → x.cell? ⟨h, 2, none⟩ = some (.int .i64 c) := fun x h => h.cell3 2 rfl
      have f33 : ∀ x, F8 w B w.heap.size h g (H5 a b c d l) (H5 p q u v k) (M5c nm1 PX PY 1 100) x → x.cell? ⟨h, 3, none⟩ = some (.int .i64 d) := fun x h => h.cell3 3 rfl
      have f34 : ∀ x, F8 w B w.heap.size h g (H5 a b c d l) (H5 p q u v k) (M5c nm1 PX PY 1 100) x → x.cell? ⟨h, 4, none⟩ = some (.int .i64 l) := fun x h => h.cell3 4 rfl
      have f40 : ∀ x, F8 w B w.heap.size h g (H5 a b c d l) (H5 p q u v k) (M5c nm1 PX PY 1 100) x → x.cell? ⟨h + 1, 0, none⟩ = some (.int .i64 p) := fun x h => h.cell4 0 rfl
      have f41 : ∀ x, F8 w B w.heap.size h g (H5 a b c d l) (H5 p q u v k) (M5c nm1 PX PY 1 100) x → x.cell? ⟨h + 1, 1, none⟩ = some (.int .i64 q) := fun x h => h.cell4 1 rfl
      have f42 : ∀ x, F8 w B w.heap.size h g (H5 a b c d l) (H5 p q u v k) (M5c nm1 PX PY 1 100) x → x.cell? ⟨h + 1, 2, none⟩ = some (.int .i64 u) := fun x h => h.cell4 2 rfl
      have f43 : ∀ x, F8 w B w.heap.size h g (H5 a b c d l) (H5 p q u v k) (M5c nm1 PX PY 1 100) x → x.cell? ⟨h + 1, 3, none⟩ = some (.int .i64 v) := fun x h => h.cell4 3 rfl
      have f44 : ∀ x, F8 w B w.heap.size h g (H5 a b c d l) (H5 p q u v k) (M5c nm1 PX PY 1 100) x → x.cell? ⟨h + 1, 4, none⟩ = some (.int .i64 k) := fun x h => h.cell4 4 rfl
      go_upto_region 8 with fail
      have XD := X6.drew
      have hsD := hs6.drew
      refine wp_region_held_drew (S := (F8 w B w.heap.size h g (H5 a b c d l) (H5 p q u v k) (M5c nm1 PX PY 1 100))) (by kernel_rfl) (by (try dsimp only); exact F8.mk XD) (fun hHeld => ?_)
      generalize w6.drew = wd at *
      refine Ord.K 0 38 ?_; refine Ord.K 1 39 ?_; refine Ord.K 2 40 ?_
      obtain ⟨⟨r0, r1, r2, r3, r4⟩, s0, s1, s2, s3, s4⟩ := (XD.box 0 _ rfl).five
      refine wpAnyH_ready (rs := [3]) (by kernel_rfl) (by simp) ?_
      refine AllReadyH.cons rfl (fun K hK => ?_) AllReadyH.nil
      go_simp
      replace XD := put5 XD 0 rfl (.string nm1) (.int .i64 PX) (.int .i64 PY) (.int .i64 1) (.int .i64 100)
      replace hsD := src5 hsD (n := w.heap.size) (by omega) (.string nm1) (.int .i64 PX) (.int .i64 PY) (.int .i64 1) (.int .i64 100)
      refine hK.out _ _ (F8.mk XD) (fun hHeld => ?_)
      clear hK K r0 r1 r2 r3 r4 s0 s1 s2 s3 s4
      (try simp only [Act.put, Ord.a, Ord.b, Ord.c])
      obtain ⟨⟨r0, r1, r2, r3, r4⟩, s0, s1, s2, s3, s4⟩ := (XD.box 1 _ rfl).five
      refine wpAnyH_ready (rs := [4]) (by kernel_rfl) (by simp) ?_
      refine AllReadyH.cons rfl (fun K hK => ?_) AllReadyH.nil
      go_simp
      replace XD := put5 XD 1 rfl (.int .i64 a) (.int .i64 b) (.int .i64 c) (.int .i64 d) (.int .i64 l)
      replace hsD := src5 hsD (n := w.heap.size + 1) (by omega) (.int .i64 a) (.int .i64 b) (.int .i64 c) (.int .i64 d) (.int .i64 l)
      refine hK.out _ _ (F8.mk XD) (fun hHeld => ?_)
      clear hK K r0 r1 r2 r3 r4 s0 s1 s2 s3 s4
      (try simp only [Act.put, Ord.a, Ord.b, Ord.c])
      obtain ⟨⟨r0, r1, r2, r3, r4⟩, s0, s1, s2, s3, s4⟩ := (XD.box 2 _ rfl).five
      refine wpAnyH_ready (rs := [5]) (by kernel_rfl) (by simp) ?_
      refine AllReadyH.cons rfl (fun K hK => ?_) AllReadyH.nil
      go_simp
      replace XD := put5 XD 2 rfl (.int .i64 p) (.int .i64 q) (.int .i64 u) (.int .i64 v) (.int .i64 k)
      replace hsD := src5 hsD (n := w.heap.size + 1 + 1) (by omega) (.int .i64 p) (.int .i64 q) (.int .i64 u) (.int .i64 v) (.int .i64 k)
      refine hK.out _ _ (F8.mk XD) (fun hHeld => ?_)
      clear hK K r0 r1 r2 r3 r4 s0 s1 s2 s3 s4
      (try simp only [Act.put, Ord.a, Ord.b, Ord.c])
      refine wpAnyH_done (by kernel_rfl) ?_ _
      go_wp2
      exact hm_done (XD.box 0 _ rfl) (XD.box 1 _ rfl) (XD.box 2 _ rfl) rfl rfl rfl hsD XD.chg

end Go.Proofs.Ytcangdcakgcpaaa.Draw
