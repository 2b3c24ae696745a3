import Derived.Test.YtmlojndkpnhalaaGreatDrawCe
import Derived.Test.YtmlojndkpnhalaaGreatMSrg
import Derived.Test.YtmlojndkpnhalaaGreatMTms
import Derived.Maps.AppendAt
namespace Go.Proofs.YtmlojndkpnhalaaGreat.Crs
open Go.ChangeShapes Go.WideShapes Go.ChangeAt Go.RowKit
open Go.Proofs.YtmlojndkpnhalaaGreat.Num Go.Proofs.YtmlojndkpnhalaaGreat.Kit Go.Proofs.YtmlojndkpnhalaaGreat.Pts Go.Proofs.YtmlojndkpnhalaaGreat.Seg Go.Proofs.YtmlojndkpnhalaaGreat.Draw Go.Proofs.YtmlojndkpnhalaaGreat.Root Go.Proofs.YtmlojndkpnhalaaGreat.Rt
open Go.Proofs.YtmlojndkpnhalaaGreat.Trk (F3 Fxs Tr OwnF ATr AnyT IntRow cellsF fixInfo Src.grown)
set_option linter.unusedVariables false
set_option linter.unusedSimpArgs false
structure ChgN (B n : Nat) (w w' : World) : Prop where
  os : w'.os = w.os
  tape : w'.tape = w.tape
  output : w'.output = w.output
  size : w.heap.size ≤ w'.heap.size
  block : ∀ k, k < w.heap.size → k ≠ B → k ≠ n → w'.heap[k]? = w.heap[k]?
theorem ChgN.of {B n : Nat} {w w' : World} (h : Chg B w w') : ChgN B n w w' := ⟨h.os, h.tape, h.output, h.size, fun k hk h1 _ => h.block k hk h1⟩
theorem ChgN.refl (B n : Nat) (w : World) : ChgN B n w w := .of (Chg.refl B w)
theorem ChgN.trans {B n q : Nat} {a b c : World} (h : ChgN B n a b) (k : ChgN B q b c) (hq : q = n ∨ a.heap.size ≤ q) : ChgN B n a c :=
  ⟨k.os.trans h.os, k.tape.trans h.tape, k.output.trans h.output, Nat.le_trans h.size k.size, fun i hi h1 h2 => (k.block i (Nat.lt_of_lt_of_le hi h.size) h1 (by omega)).trans (h.block i hi h1 h2)⟩
theorem ChgN.ext {B n : Nat} {a b c : World} (h : ChgN B n a b) (k : Ext b c) : ChgN B n a c := h.trans (ChgN.of (n := n) (Chg.of_ext k)) (.inl rfl)
theorem ChgN.chg {B n : Nat} {a b c : World} (h : ChgN B n a b) (k : Chg B b c) : ChgN B n a c := h.trans (ChgN.of (n := n) k) (.inl rfl)
theorem ChgN.grown {B n : Nat} {a b c : World} {v : Value} (h : ChgN B n a b) (k : b.grownBy c v.ownBlock) (hv : ∀ q, v.ownBlock = some q → q = n ∨ a.heap.size ≤ q) : ChgN B n a c :=
  ⟨k.os.trans h.os, k.tape.trans h.tape, k.output.trans h.output, Nat.le_trans h.size k.size, fun i hi h1 h2 => (k.block i (Nat.lt_of_lt_of_le hi h.size) (fun e => by have := hv i e.symm; omega)).trans (h.block i hi h1 h2)⟩
theorem ChgN.cellOf {B n : Nat} {w w' : World} (h : ChgN B n w w') {a : Addr} {v : Value} (h1 : a.block ≠ B) (h2 : a.block ≠ n) (hc : w.cell? a = some v) : w'.cell? a = some v := by
  rw [World.cell?_of_block (w := w) (h.block a.block (World.block_lt_of_cell? w _ hc) h1 h2)]; exact hc
theorem ChgN.box {B n m : Nat} {w w' : World} {vs : List Value} (h : ChgN B n w w') (hb : Box w m vs) (h1 : m ≠ B) (h2 : m ≠ n) : Box w' m vs := fun i v hv => by
  obtain ⟨c, f⟩ := hb i v hv
  have e := h.block m (World.block_lt_of_cell? w _ c) h1 h2
  exact ⟨by rw [World.cell?_of_block (w := w) (a := ⟨m, i, none⟩) e]; exact c, by rw [World.frozen?_of_block (w := w) (a := ⟨m, i, none⟩) e]; exact f⟩
def RowIn (w : World) (n : Nat) (v : Value) : Prop := ∃ q, v.ownBlock = some q ∧ (q = n ∨ w.heap.size ≤ q)
theorem rowIn_at {w : World} {n q : Nat} {v : Value} (h : RowIn w n v) (hq : v.ownBlock = some q) : q = n ∨ w.heap.size ≤ q := by
  obtain ⟨p, hp, h⟩ := h
  rw [hp] at hq
  cases hq
  exact h
theorem rowIn_step {w c : World} {n : Nat} {v v' : Value} (h : RowIn w n v) (hc : w.heap.size ≤ c.heap.size) (ha : v'.ownBlock = v.ownBlock ∨ v'.ownBlock = some c.heap.size) : RowIn w n v' := by
  rcases ha with ha | ha
  · obtain ⟨p, hp, h⟩ := h
    exact ⟨p, ha.trans hp, h⟩
  · exact ⟨_, ha, .inr hc⟩
theorem rowIn_trans {W wx : World} {n q : Nat} {v v0 : Value} (h : RowIn wx q v) (h0 : RowIn W n v0) (hq : v0.ownBlock = some q) (hq1 : q = n ∨ W.heap.size ≤ q) (hz : W.heap.size ≤ wx.heap.size) : RowIn W n v := by
  obtain ⟨p, hp, h⟩ := h
  exact ⟨p, hp, by omega⟩
theorem Mks.chg {w w' : World} {a : Option Addr} {ms : List M5} {B : Nat} (h : Mks w a ms) (k : Chg B w w') (hB : ∀ ad, a = some ad → ad.block ≠ B) : Mks w' a ms := by
  refine ⟨h.1, ?_⟩
  rcases h.2 with e | ⟨b, off, rfl, e⟩
  · exact .inl e
  · have hb : b ≠ B := hB _ rfl
    exact .inr ⟨b, off, rfl, fun i hi => ⟨k.cellOf hb (e i hi).1, k.cellOf hb (e i hi).2.1, k.cellOf hb (e i hi).2.2.1, k.cellOf hb (e i hi).2.2.2.1, k.cellOf hb (e i hi).2.2.2.2⟩⟩
theorem ds_done {B n g cap k : Nat} {w F : World} {tmps : Array Value} (R : Box F n [.slice (some ⟨g, 0, none⟩) k cap]) (h1 : 1 ≤ k) (h2 : k ≤ 41) (h3 : k ≤ cap) (h4 : w.heap.size ≤ g) (hI : IntRow F g k) (hs : Src F B) (hC : Chg B w F)
    (ha : tmps[4]? = some (.pointer (some ⟨n, 0, none⟩))) : bodyPost Tryz.prog Tryz.f69 (AnyT B w) Exit.ret ⟨tmps, []⟩ F := by
  have g0 := (R 0 _ rfl).1
  exact bodyPost_ret (v := Tr (.slice (some ⟨g, 0, none⟩) k cap)) (by simp [results, Tryz.results69, go_sem, ha, g0]) rfl ⟨g, cap, k, rfl, h1, h2, h3, h4, hI, hs, hC⟩
theorem drawT_any (B : Nat) (w : World) (hs : Src w B) : Calls Tryz.prog 130 #[.pointer (some ⟨B, 0, none⟩)] w (AnyT B w) :=
  (Trk.draw_any B w hs).mono fun e w' ⟨v, fs, he, h2, h8, hO, hs', hc⟩ => by
    obtain ⟨a, cap, rfl, hcap, _, h | ⟨g, rfl, hg, hW⟩⟩ := hO.fxs
    · rw [h] at h2; simp at h2
    · exact ⟨g, cap, fs.length, he, by omega, by omega, hcap, hg, hW.ints, hs', hc⟩
def SailK (w : World) (B R base : Nat) (W : World) (n : Nat) (m : Nat) (o t : Value) (wr : World) : Prop :=
  ∃ (fs : List F3) (z : Int), t = .int .i64 z ∧ fs.length ≤ m ∧ OwnF wr base o fs ∧ RowIn W n o ∧ Src wr B ∧ Chg B w wr ∧ ChgN B n W wr ∧ Box wr R [.slice none 0 0]
def RelSa (w : World) (B R base : Nat) (W : World) (n len : Nat) (o t i : Value) (wr : World) : Prop := ∃ j : Nat, i = .int .i64 j ∧ j ≤ len ∧ SailK w B R base W n (2 * j) o t wr
def RelSb (w : World) (B R base : Nat) (W : World) (n m : Nat) (o t s : Value) (wr : World) : Prop := ∃ j : Nat, s = .int .i64 (1 - 2 * (j : Int)) ∧ j ≤ 2 ∧ SailK w B R base W n (m + j) o t wr
set_option maxRecDepth 100000 in
set_option maxHeartbeats 16000000 in
theorem drawSail_any (B : Nat) (l k : L4) (a : Option Addr) (cap : Nat) (ms : List M5) (w : World) (hs : Src w B) (hf : Mks w a ms) (hB : ∀ ad, a = some ad → ad.block ≠ B) :
    Calls Tryz.prog 69 #[.pointer (some ⟨B, 0, none⟩), CV l k (.slice a ms.length cap)] w (AnyT B w) := by
  have hl := hs.lt
  obtain ⟨W0, hW0⟩ : ∃ W0, W0 = ((w.alloc (.cells (cellsC l k (.slice a ms.length cap)).toArray 30)).alloc (.cells #[.slice none 0 0] 33)).alloc (.cells #[] 53) := ⟨_, rfl⟩
  have HW := Lib.hid (show Ext w W0 from hW0 ▸ (((Ext.refl w).alloc _).alloc _).alloc _)
  have BB := Lib.hid (show Box W0 w.heap.size (cellsC l k (.slice a ms.length cap)) from hW0 ▸ ((Box.new rfl).alloc _).alloc _)
  have BR := Lib.hid (show Box W0 (w.heap.size + 1) [.slice none 0 0] from hW0 ▸ (Box.new (vs := [.slice none 0 0]) (by simp)).alloc _)
  have O0 := Lib.hid (show OwnF W0 (w.heap.size + 1 + 1) (.slice (some ⟨w.heap.size + 1 + 1, 0, none⟩) 0 0) [] from by
    have h := World.ownsRow_lit (base := w.heap.size + 1 + 1) (e := 53) (size := 3) ((w.alloc (.cells (cellsC l k (.slice a ms.length cap)).toArray 30)).alloc (.cells #[.slice none 0 0] 33)) #[] 0 (by simp) (by unfold maxLen; omega) rfl
    simp at h
    rw [hW0]; exact h)
  have zW : W0.heap.size = w.heap.size + 1 + 1 + 1 := by rw [hW0]; simp
  have HF := Lib.hid (hf.ext HW.out)
  have HB := Lib.hid hB
  have S0 := Lib.hid (hs.ext HW.out)
  clear hf hs hB
  obtain ⟨i0, hin, hz0, hz1, hz2⟩ := info_parts fixInfo
  go_enter Tryz.func69, Tryz.ntmps69
  go_wp2_with fail
  rw [← hW0]
  clear hW0
  refine (next_pos B _ _ S0.out (by omega)).mono ?_
  rintro e w1 ⟨t0, rfl, t1, t2, hs1, hc1⟩
  have z1 := hc1.size
  have S1 := Lib.hid hs1
  have C1 := Lib.hid ((Chg.of_ext HW.out).trans hc1)
  have HF1 := Lib.hid (Mks.chg HF.out hc1 HB.out)
  have B1 := Lib.hid (BB.out.chg hc1 (by omega))
  have R1 := Lib.hid (BR.out.chg hc1 (by omega))
  have O1 := Lib.hid (OwnF.chg O0.out hc1 (by simp [Value.ownBlock]; omega))
  clear hs1 hc1 HF BB BR O0 S0
  obtain ⟨⟨p0, p1, p2, p3, p4, p5, p6, p7, p8⟩, _⟩ := Box.nine B1.out
  cases hq : crB l k ms
  · go_wp2_with fail
    refine (isCourse_spec _ _ _ _ _ _ HF1.out).mono ?_
    rw [hq]
    rintro e w2 ⟨rfl, hx⟩
    have R2 := Lib.hid (R1.out.ext hx)
    go_wp2_with fail
    refine (drawT_any B _ (S1.out.ext hx)).mono ?_
    rintro e w3 ⟨g, c3, n3, rfl, h1, h41, hcap, hg, hI, hs3, hc3⟩
    have hgl : g < w3.heap.size := World.block_lt_of_cell? w3 _ (hI 0 (by omega)).1.choose_spec
    have R3 := R2.out.chg hc3 (by omega)
    obtain ⟨r0, r1⟩ := R3 0 _ rfl
    have zx := Ext.size hx
    have hk : Chg (w.heap.size + 1) w3 (w3.setCell ⟨w.heap.size + 1, 0, none⟩ (.slice (some ⟨g, 0, none⟩) n3 c3)) := (Chg.refl _ _).setCell _ _
    have R4 := Lib.hid (show Box (w3.setCell ⟨w.heap.size + 1, 0, none⟩ (.slice (some ⟨g, 0, none⟩) n3 c3)) (w.heap.size + 1) [.slice (some ⟨g, 0, none⟩) n3 c3] from R3.set 0 (by simp) _)
    have I4 := Lib.hid (hI.chg hk (by omega))
    have S4 := Lib.hid (hs3.setCell (p := ⟨w.heap.size + 1, 0, none⟩) (by simp; omega) (.slice (some ⟨g, 0, none⟩) n3 c3))
    have C4 := Lib.hid (((C1.out.trans (Chg.of_ext hx)).trans hc3).setNew (p := ⟨w.heap.size + 1, 0, none⟩) (by simp) (.slice (some ⟨g, 0, none⟩) n3 c3))
    clear hk
    go_wp2
    exact ds_done R4.out h1 h41 hcap (by omega) I4.out S4.out C4.out rfl
  · have KL := Lib.hid (fun w hf => l06Lines_spec l k a cap ms w hf hq)
    have ST := Lib.hid (fun h => st_ok (l := l) (k := k) (ms := ms) hq h)
    have h8 := cr_eight hq
    have SL := Lib.hid (stS_len l k ms)
    go_wp2_with fail
    refine (isCourse_spec _ _ _ _ _ _ HF1.out).mono ?_
    rw [hq]
    rintro e w2 ⟨rfl, hx⟩
    have zx := Ext.size hx
    have R2 := Lib.hid (R1.out.ext hx)
    have O2 := Lib.hid (O1.out.ext hx)
    have S2 := Lib.hid (S1.out.ext hx)
    have C2 := Lib.hid (C1.out.trans (Chg.of_ext hx))
    have HF2 := Lib.hid (HF1.out.ext hx)
    have B2 := Lib.hid (B1.out.ext hx)
    clear hx p0 p1 p2 p3 p4 p5 p6 p7 p8 R1 O1 S1 C1 HF1 B1
    obtain ⟨⟨p0, p1, p2, p3, p4, p5, p6, p7, p8⟩, _⟩ := Box.nine B2.out
    cases hls : lsB l k ms
    · go_wp2_with fail
      refine (KL.out _ HF2.out).mono ?_
      rw [show LinesS w2 w2.heap.size l k ms = fun e w' => ∃ v, e = .returned (.tuple #[v, .bool (lsB l k ms)]) ∧ (lsB l k ms = true → OwnL w' w2.heap.size v (stS l k ms)) ∧ Ext w2 w' from rfl, hls]
      rintro e w3 ⟨vl, rfl, -, hx⟩
      have R3 := Lib.hid (R2.out.ext hx)
      have zy := Ext.size hx
      go_wp2_with fail
      refine (drawT_any B _ (S2.out.ext hx)).mono ?_
      rintro e w4 ⟨g, c3, n3, rfl, h1, h41, hcap, hg, hI, hs3, hc3⟩
      have hgl : g < w4.heap.size := World.block_lt_of_cell? w4 _ (hI 0 (by omega)).1.choose_spec
      have R4 := R3.out.chg hc3 (by omega)
      obtain ⟨r0, r1⟩ := R4 0 _ rfl
      have hk : Chg (w.heap.size + 1) w4 (w4.setCell ⟨w.heap.size + 1, 0, none⟩ (.slice (some ⟨g, 0, none⟩) n3 c3)) := (Chg.refl _ _).setCell _ _
      have R5 := Lib.hid (show Box (w4.setCell ⟨w.heap.size + 1, 0, none⟩ (.slice (some ⟨g, 0, none⟩) n3 c3)) (w.heap.size + 1) [.slice (some ⟨g, 0, none⟩) n3 c3] from R4.set 0 (by simp) _)
      have I4 := Lib.hid (hI.chg hk (by omega))
      have S4 := Lib.hid (hs3.setCell (p := ⟨w.heap.size + 1, 0, none⟩) (by simp; omega) (.slice (some ⟨g, 0, none⟩) n3 c3))
      have C4 := Lib.hid (((C2.out.trans (Chg.of_ext hx)).trans hc3).setNew (p := ⟨w.heap.size + 1, 0, none⟩) (by simp) (.slice (some ⟨g, 0, none⟩) n3 c3))
      clear hk
      go_wp2
      exact ds_done R5.out h1 h41 hcap (by omega) I4.out S4.out C4.out rfl
    · go_wp2_with fail
      refine (KL.out _ HF2.out).mono ?_
      rw [show LinesS w2 w2.heap.size l k ms = fun e w' => ∃ v, e = .returned (.tuple #[v, .bool (lsB l k ms)]) ∧ (lsB l k ms = true → OwnL w' w2.heap.size v (stS l k ms)) ∧ Ext w2 w' from rfl, hls]
      rintro e w3 ⟨vl, rfl, hOl, hx⟩
      have zy := Ext.size hx
      have hOl2 := hOl (by simp)
      obtain ⟨gl, cl, rfl, hcl, hgl, hCl⟩ := row_some hOl2 (by rw [SL.out]; omega)
      have LN := Lib.hid (ST.out hls)
      have LL : (stS l k ms).length = ms.length + 2 := SL.out
      have CL := Lib.hid (fun (i : Nat) (hi : i < (stS l k ms).length) => show LAt w3 gl (i * 4) (ln (stS l k ms) i) from by
        obtain ⟨q0, q1, q2, q3⟩ := cellsLs_get _ i _ (ln_at hi)
        exact ⟨(hCl _ (by omega)).trans q0, (hCl _ (by omega)).trans q1, (hCl _ (by omega)).trans q2, (hCl _ (by omega)).trans q3⟩)
      have gll : gl < w3.heap.size := (World.ownsRow.lt hOl2 gl rfl).2
      have R3 := Lib.hid (R2.out.ext hx)
      have O3 := Lib.hid (O2.out.ext hx)
      have S3 := Lib.hid (S2.out.ext hx)
      have C3 := Lib.hid (C2.out.trans (Chg.of_ext hx))
      clear hOl hOl2 hCl hx p0 p1 p2 p3 p4 p5 p6 p7 p8 R2 O2 S2 C2 HF2 B2 KL ST SL hq hls
      obtain ⟨ls, hlse⟩ : ∃ ls, ls = stS l k ms := ⟨_, rfl⟩
      rw [← hlse] at LN LL CL
      rw [← hlse]
      clear hlse
      go_wp2
      go_loopw [5, 6, 9] (fun o t i wr => RelSa w B (w.heap.size + 1) (w.heap.size + 1 + 1) w3 (w.heap.size + 1 + 1) ls.length o t i wr) (fun o t i _ => ls.length - (intOf i).toNat)
      case atStart => exact ⟨0, rfl, Nat.zero_le _, [], t0, rfl, Nat.le_refl _, O3.out, ⟨w.heap.size + 1 + 1, rfl, .inl rfl⟩, S3.out, C3.out, ChgN.refl _ _ _, R3.out⟩
      case round =>
        obtain ⟨j, rfl, hj, fs, z, rfl, hfl, hO, hRI, hSr, hC, hN, hR⟩ := hrel
        have HO := Lib.hid hO
        have HRI := Lib.hid hRI
        have HS := Lib.hid hSr
        have HC := Lib.hid hC
        have HN := Lib.hid hN
        have HR := Lib.hid hR
        clear hO hRI hSr hC hN hR R3 O3 S3 C3
        by_cases hj1 : j < ls.length
        · obtain ⟨q, hq0, hq1⟩ := HRI.out
          have gb : gl ≠ B := by omega
          have gn : gl ≠ w.heap.size + 1 + 1 := by omega
          have zr := HC.out.size
          have z3r := HN.out.size
          have j0 : (0 : Int) ≤ (j : Int) := by omega
          have j1 : (j : Int) < (ls.length : Int) := by omega
          have T7 : IntKind.i64.wrap ((j : Int) + 1) = (j : Int) + 1 := IntWalk.i64_in _ (by omega)
          have hqr := (World.ownsRow.lt HO.out q hq0).2
          go_wp2_with fail
          refine (next_pos B _ _ HS.out (by omega)).mono ?_
          rintro e wA ⟨r, rfl, r0, r1, hsA, hcA⟩
          have OA := Lib.hid (OwnF.chg HO.out hcA (OwnF.block HO.out (by omega)))
          have CA := Lib.hid (HC.out.trans hcA)
          have NA := Lib.hid (HN.out.chg hcA)
          have RA := Lib.hid (HR.out.chg hcA (by omega))
          have SA := Lib.hid hsA
          have zA := hcA.size
          clear hcA hsA HO HC HN HR HS
          by_cases h0 : r = 0
          · have t1 : (r == 0) = true := beq_iff_eq.2 h0
            go_wp2
            go_roundw
            case rel => exact ⟨j + 1, by go_num, by omega, fs, z, rfl, by omega, OA.out, HRI.out, SA.out, CA.out, NA.out, RA.out⟩
            case measure => simp [intOf]; omega
          · have t1 : (r == 0) = false := beq_eq_false_iff_ne.2 h0
            obtain ⟨l0, l1, l2, l3⟩ := CL.out j hj1
            have hsL := LN.out _ (List.mem_of_getElem? (ln_at hj1))
            obtain ⟨L, hL⟩ : ∃ L, L = ln ls j := ⟨_, rfl⟩
            rw [← hL] at l0 l1 l2 l3 hsL
            clear hL
            replace l0 := NA.out.cellOf gb gn l0
            replace l1 := NA.out.cellOf gb gn l1
            replace l2 := NA.out.cellOf gb gn l2
            replace l3 := NA.out.cellOf gb gn l3
            obtain ⟨⟨ca, cb, cc, cd⟩, hne⟩ := sgB_yes hsL
            have KM := Lib.hid (fun w' => middle_any L w' hsL)
            have KN2 := Lib.hid (fun w' => minus_any L.c L.d L.a L.b w' cc cd ca cb)
            have mx := md_bd ca cc
            have my := md_bd cb cd
            unfold Co at ca cb cc cd mx my
            obtain ⟨M, hM⟩ : ∃ M : P2, M = ⟨md L.a L.c, md L.b L.d⟩ := ⟨_, rfl⟩
            have hMx : md L.a L.c = M.x := by rw [hM]
            have hMy : md L.b L.d = M.y := by rw [hM]
            obtain ⟨dx, hdx⟩ : ∃ dx, dx = L.c - L.a := ⟨_, rfl⟩
            obtain ⟨dy, hdy⟩ : ∃ dy, dy = L.d - L.b := ⟨_, rfl⟩
            rw [hMx, hMy] at KM
            rw [hMx] at mx
            rw [hMy] at my
            rw [← hdx, ← hdy] at KN2
            have e1 : -2000000 ≤ dx ∧ dx ≤ 2000000 := by omega
            have e2 : -2000000 ≤ dy ∧ dy ≤ 2000000 := by omega
            have n1 := rt_one (x := dx) (y := dy) (fun q => hne (by omega))
            have n2 := rt_up e1 e2
            obtain ⟨b0, b1⟩ := sqs_bd e1 e2
            have KD := Lib.hid (fun w' => dot_any dx dy dx dy w' e1 e2 e1 e2)
            have KR2 := Lib.hid (fun w' => rootE (dx * dx + dy * dy) w' b0 (by omega))
            obtain ⟨N, hN⟩ : ∃ N, N = rt (dx * dx + dy * dy) := ⟨_, rfl⟩
            rw [← hN] at n1 n2 KR2
            have hmax : max 1 N = N := by omega
            clear hM hMx hMy hdx hdy hN hne b0 b1 ca cb cc cd hsL
            go_wp2_with fail
            refine (KM.out _).mono ?_
            rintro e wB ⟨rfl, hxB⟩
            have LB := (Box.new (w := wA) (vs := cellsL L) (t := 27) rfl).ext hxB
            have k0 : ∀ A, (wB.alloc A).cell? ⟨wA.heap.size, 0, none⟩ = some (.int .i64 L.a) := fun A => ((Ext.refl wB).alloc A).cellOf (LB 0 _ rfl).1
            have k1 : ∀ A, (wB.alloc A).cell? ⟨wA.heap.size, 1, none⟩ = some (.int .i64 L.b) := fun A => ((Ext.refl wB).alloc A).cellOf (LB 1 _ rfl).1
            have k2 : ∀ A, (wB.alloc A).cell? ⟨wA.heap.size, 2, none⟩ = some (.int .i64 L.c) := fun A => ((Ext.refl wB).alloc A).cellOf (LB 2 _ rfl).1
            have k3 : ∀ A, (wB.alloc A).cell? ⟨wA.heap.size, 3, none⟩ = some (.int .i64 L.d) := fun A => ((Ext.refl wB).alloc A).cellOf (LB 3 _ rfl).1
            have XB := Lib.hid (((Ext.refl wA).alloc (.cells #[.int .i64 L.a, .int .i64 L.b, .int .i64 L.c, .int .i64 L.d] 27)).trans hxB)
            clear LB hxB l0 l1 l2 l3
            go_wp2_with fail
            refine (KN2.out _).mono ?_
            rintro e wC ⟨rfl, hxC⟩
            have PB := Lib.hid ((Box.new2 (w := wB) (x := .int .i64 M.x) (y := .int .i64 M.y) (t := 25) rfl).ext hxC)
            have XC := Lib.hid (((Ext.refl wB).alloc (.cells #[.int .i64 M.x, .int .i64 M.y] 25)).trans hxC)
            have zC := Ext.size hxC
            simp at zC
            clear hxC k0 k1 k2 k3
            go_wp2_with fail
            refine (KD.out _).mono ?_
            rintro e wD ⟨rfl, hxD⟩
            have DB := Lib.hid ((Box.new2 (w := wC) (x := .int .i64 dx) (y := .int .i64 dy) (t := 25) rfl).ext hxD)
            have zD := Ext.size hxD
            simp at zD
            replace hxD := ((Ext.refl wC).alloc (.cells #[.int .i64 dx, .int .i64 dy] 25)).trans hxD
            replace PB := Lib.hid (PB.out.ext hxD)
            go_wp2_with fail
            refine (KR2.out _).mono ?_
            rintro e wE ⟨rfl, hxE⟩
            have XE := Lib.hid (XB.out.trans (XC.out.trans (hxD.trans hxE)))
            replace PB := Lib.hid (PB.out.ext hxE)
            replace DB := Lib.hid (DB.out.ext hxE)
            have zB := Ext.size XB.out
            have zE := Ext.size hxE
            clear hxD hxE
            go_wp2_with fail
            refine (next_pos B _ _ (SA.out.ext XE.out) (by omega)).mono ?_
            rintro e wx ⟨r2, rfl, r20, r21, hsx, hcx⟩
            have zx2 := hcx.size
            have Ox := Lib.hid (OwnF.chg (OwnF.ext OA.out XE.out) hcx (OwnF.block OA.out (by omega)))
            have Cx := Lib.hid ((CA.out.trans (Chg.of_ext XE.out)).trans hcx)
            have Nx := Lib.hid ((NA.out.ext XE.out).chg hcx)
            have Rx := Lib.hid ((RA.out.ext XE.out).chg hcx (by omega))
            have Sx := Lib.hid hsx
            have PBx := Lib.hid (PB.out.chg hcx (by omega))
            have DBx := Lib.hid (DB.out.chg hcx (by omega))
            clear hcx hsx OA CA NA RA SA PB DB XB XC XE KM KN2 KD KR2
            obtain ⟨W, hWe⟩ : ∃ W, W = 4 + r2 := ⟨_, rfl⟩
            have TW : IntKind.i64.wrap (4 + r2) = W := by rw [hWe]; exact IntWalk.i64_in _ (by omega)
            have w0 : 4 ≤ W ∧ W ≤ 33 := by omega
            clear hWe
            obtain ⟨a1, a2⟩ := mul_bd 2000000 33 e2 (show -33 ≤ W ∧ W ≤ 33 by omega)
            obtain ⟨a3, a4⟩ := mul_bd 2000000 33 e1 (show -33 ≤ W ∧ W ≤ 33 by omega)
            simp only [Int.reduceMul, Int.reduceNeg] at a1 a2 a3 a4
            obtain ⟨c1, c2⟩ := flo_bd n1 66000000 a1 a2
            obtain ⟨c3, c4⟩ := flo_bd n1 66000000 a3 a4
            have FE := Lib.hid (fun w' => floorE (dy * W) N w' n1 (by omega) (by omega))
            have FS := Lib.hid (fun w' => floorE (dx * W) N w' n1 (by omega) (by omega))
            obtain ⟨F, hF⟩ : ∃ F, F = flo (dy * W) N := ⟨_, rfl⟩
            obtain ⟨G, hG⟩ : ∃ G, G = flo (dx * W) N := ⟨_, rfl⟩
            rw [← hF] at FE c1 c2
            rw [← hG] at FS c3 c4
            have T5 : IntKind.i64.wrap (dy * W) = dy * W := IntWalk.i64_in _ (by omega)
            have T6 : IntKind.i64.wrap (dx * W) = dx * W := IntWalk.i64_in _ (by omega)
            clear hF hG
            go_wp2
            go_loopw [5, 6, 15] (fun o t s wr => RelSb w B (w.heap.size + 1) (w.heap.size + 1 + 1) wx q (2 * j) o t s wr) (fun o t s _ => (intOf s + 3).toNat)
            case atStart => exact ⟨0, rfl, by omega, fs, z, rfl, by omega, Ox.out, ⟨q, hq0, .inl rfl⟩, Sx.out, Cx.out, ChgN.refl _ _ _, Rx.out⟩
            case round =>
              obtain ⟨jj, rfl, hjj, fs2, z2, rfl, hfl2, hO, hRI2, hSr, hC, hN, hR⟩ := hrel
              have KO := Lib.hid hO
              have KI := Lib.hid hRI2
              have KS := Lib.hid hSr
              have KC := Lib.hid hC
              have KN := Lib.hid hN
              have KR := Lib.hid hR
              have zr2 := hC.size
              have zr3 := hN.size
              obtain ⟨⟨m0, m1⟩, _⟩ := (KN.out.box PBx.out (by omega) (by omega)).two
              obtain ⟨⟨m2, m3⟩, _⟩ := (KN.out.box DBx.out (by omega) (by omega)).two
              clear hO hRI2 hSr hC hN hR Ox Cx Rx Sx
              match jj, hjj, hfl2 with
              | 0, _, hfl2 =>
                have T1 : IntKind.i64.wrap F = F := IntWalk.i64_in _ (by omega)
                have T2 : IntKind.i64.wrap G = G := IntWalk.i64_in _ (by omega)
                have T3 : IntKind.i64.wrap (M.x + F) = M.x + F := IntWalk.i64_in _ (by omega)
                have T4 : IntKind.i64.wrap (M.y - G) = M.y - G := IntWalk.i64_in _ (by omega)
                have e0 : ∀ w', Ext wr w' → w'.cell? ⟨wB.heap.size, 0, none⟩ = some (.int .i64 M.x) := fun w' h => h.cellOf m0
                have e1 : ∀ w', Ext wr w' → w'.cell? ⟨wB.heap.size, 1, none⟩ = some (.int .i64 M.y) := fun w' h => h.cellOf m1
                have e2 : ∀ w', Ext wr w' → w'.cell? ⟨wC.heap.size, 0, none⟩ = some (.int .i64 dx) := fun w' h => h.cellOf m2
                have e3 : ∀ w', Ext wr w' → w'.cell? ⟨wC.heap.size, 1, none⟩ = some (.int .i64 dy) := fun w' h => h.cellOf m3
                go_upto_region 20 with fail
                go_cut [16] (fun s wy => (∃ Q, s = .pointer (some ⟨Q, 0, none⟩) ∧ wr.heap.size ≤ Q ∧ Box wy Q [.int .i64 (M.x + F), .int .i64 (M.y - G)]) ∧ Ext wr wy)
                case first =>
                  clear m0 m1 m2 m3
                  refine wp_region_held_drew (S := fun w' => Ext wr w') (by kernel_rfl) (by (try dsimp only); exact Ext.drew (Ext.refl wr)) (fun hHeld => ?_)
                  have hE : Ext wr wr.drew := Ext.drew (Ext.refl wr)
                  obtain ⟨V0, hV0⟩ : ∃ V0, V0 = wr.drew := ⟨_, rfl⟩
                  rw [← hV0] at hE hHeld ⊢
                  clear hV0
                  refine Ord.K 0 66 ?_; refine Ord.K 2 68 ?_; refine Ord.K 3 69 ?_; refine Ord.K 5 71 ?_; refine Ord.K 7 73 ?_; refine Ord.K 11 77 ?_; refine Ord.K 13 79 ?_; refine Ord.K 14 80 ?_; refine Ord.K 16 82 ?_; refine Ord.K 18 84 ?_; refine Ord.K 1 67 ?_; refine Ord.K 4 70 ?_; refine Ord.K 12 78 ?_; refine Ord.K 15 81 ?_; refine Ord.K 6 72 ?_; refine Ord.K 17 83 ?_
                  refine wpAnyH_ready (rs := [8, 23]) (by kernel_rfl) (by simp) ?_
                  refine (AllReadyH.cons rfl (fun K hK => ?_) (AllReadyH.cons rfl (fun K hK => ?_) AllReadyH.nil))
                  · go_simp
                    go_at_call 129
                    refine (FE.out _).mono ?_
                    rintro e V1 ⟨rfl, hy⟩
                    go_wp2_with fail
                    have zy := Ext.size hy
                    have hE' := hE.trans hy
                    refine hK.out _ _ hE' (fun hHeld => ?_)
                    clear hK K
                    (try simp only [Act.put, Ord.a, Ord.b, Ord.c])
                    replace hE := hE'
                    clear hE' hy
                    refine Ord.K 9 75 ?_; refine Ord.K 10 76 ?_
                    refine wpAnyH_ready (rs := [19, 23]) (by kernel_rfl) (by simp) ?_
                    refine (AllReadyH.cons rfl (fun K hK => ?_) (AllReadyH.cons rfl (fun K hK => ?_) AllReadyH.nil))
                    · go_simp
                      go_at_call 129
                      refine (FS.out _).mono ?_
                      rintro e V2 ⟨rfl, hy⟩
                      go_wp2_with fail
                      have zy := Ext.size hy
                      have hE' := hE.trans hy
                      refine hK.out _ _ hE' (fun hHeld => ?_)
                      clear hK K
                      (try simp only [Act.put, Ord.a, Ord.b, Ord.c])
                      replace hE := hE'
                      clear hE' hy
                      refine Ord.K 20 86 ?_; refine Ord.K 21 87 ?_; refine Ord.K 22 88 ?_
                      refine wpAnyH_ready (rs := [23]) (by kernel_rfl) (by simp) ?_
                      refine (AllReadyH.cons rfl (fun K hK => ?_) AllReadyH.nil)
                      go_simp
                      have hy : Ext V2 (V2.alloc (.cells #[.int .i64 0, .int .i64 0] 25)) := (Ext.refl V2).alloc _
                      have hE' := hE.trans hy
                      refine hK.out _ _ hE' (fun hHeld => ?_)
                      clear hK K
                      (try simp only [Act.put, Ord.a, Ord.b, Ord.c])
                      have P23 : Box (V2.alloc (.cells #[.int .i64 0, .int .i64 0] 25)) V2.heap.size [.int .i64 0, .int .i64 0] := Box.new (vs := [.int .i64 0, .int .i64 0]) rfl
                      have z23 := Ext.size hE
                      have y23 : V2.heap.size < (V2.alloc (.cells #[.int .i64 0, .int .i64 0] 25)).heap.size := by simp
                      replace hE := hE'
                      clear hE' hy
                      generalize V2.alloc (.cells #[.int .i64 0, .int .i64 0] 25) = V3 at *
                      refine wpAnyH_ready (rs := [24]) (by kernel_rfl) (by simp) ?_
                      refine (AllReadyH.cons rfl (fun K hK => ?_) AllReadyH.nil)
                      obtain ⟨⟨r0, r1⟩, r2, r3⟩ := P23.two
                      go_simp
                      have hE' : Ext wr ((V3.setCell ⟨V2.heap.size, 0, none⟩ (.int .i64 (M.x + F))).setCell ⟨V2.heap.size, 1, none⟩ (.int .i64 (M.y - G))) := ((hE.setNew (by first | omega | (simp; omega) | simp) _).setNew (by first | omega | (simp; omega) | simp) _)
                      refine hK.out _ _ hE' (fun hHeld => ?_)
                      clear hK K r0 r1 r2 r3
                      (try simp only [Act.put, Ord.a, Ord.b, Ord.c])
                      replace P23 := P23.set2 (u := .int .i64 (M.x + F)) (v := .int .i64 (M.y - G))
                      replace hE := hE'
                      clear hE'
                      generalize ((V3.setCell ⟨V2.heap.size, 0, none⟩ (.int .i64 (M.x + F))).setCell ⟨V2.heap.size, 1, none⟩ (.int .i64 (M.y - G))) = V4 at *
                      refine wpAnyH_done (by kernel_rfl) ?_ _
                      go_wp2_with fail; go_meet; exact ⟨⟨_, rfl, by omega, P23⟩, hE⟩
                    · go_simp
                      have hy : Ext V1 (V1.alloc (.cells #[.int .i64 0, .int .i64 0] 25)) := (Ext.refl V1).alloc _
                      have hE' := hE.trans hy
                      refine hK.out _ _ hE' (fun hHeld => ?_)
                      clear hK K
                      (try simp only [Act.put, Ord.a, Ord.b, Ord.c])
                      have P23 : Box (V1.alloc (.cells #[.int .i64 0, .int .i64 0] 25)) V1.heap.size [.int .i64 0, .int .i64 0] := Box.new (vs := [.int .i64 0, .int .i64 0]) rfl
                      have z23 := Ext.size hE
                      have y23 : V1.heap.size < (V1.alloc (.cells #[.int .i64 0, .int .i64 0] 25)).heap.size := by simp
                      replace hE := hE'
                      clear hE' hy
                      generalize V1.alloc (.cells #[.int .i64 0, .int .i64 0] 25) = V2 at *
                      refine wpAnyH_ready (rs := [19]) (by kernel_rfl) (by simp) ?_
                      refine (AllReadyH.cons rfl (fun K hK => ?_) AllReadyH.nil)
                      go_simp
                      go_at_call 129
                      refine (FS.out _).mono ?_
                      rintro e V3 ⟨rfl, hy⟩
                      go_wp2_with fail
                      have zy := Ext.size hy
                      have hE' := hE.trans hy
                      refine hK.out _ _ hE' (fun hHeld => ?_)
                      clear hK K
                      (try simp only [Act.put, Ord.a, Ord.b, Ord.c])
                      replace P23 := P23.ext hy
                      replace hE := hE'
                      clear hE' hy
                      refine Ord.K 20 86 ?_; refine Ord.K 21 87 ?_; refine Ord.K 22 88 ?_
                      refine wpAnyH_ready (rs := [24]) (by kernel_rfl) (by simp) ?_
                      refine (AllReadyH.cons rfl (fun K hK => ?_) AllReadyH.nil)
                      obtain ⟨⟨r0, r1⟩, r2, r3⟩ := P23.two
                      go_simp
                      have hE' : Ext wr ((V3.setCell ⟨V1.heap.size, 0, none⟩ (.int .i64 (M.x + F))).setCell ⟨V1.heap.size, 1, none⟩ (.int .i64 (M.y - G))) := ((hE.setNew (by first | omega | (simp; omega) | simp) _).setNew (by first | omega | (simp; omega) | simp) _)
                      refine hK.out _ _ hE' (fun hHeld => ?_)
                      clear hK K r0 r1 r2 r3
                      (try simp only [Act.put, Ord.a, Ord.b, Ord.c])
                      replace P23 := P23.set2 (u := .int .i64 (M.x + F)) (v := .int .i64 (M.y - G))
                      replace hE := hE'
                      clear hE'
                      generalize ((V3.setCell ⟨V1.heap.size, 0, none⟩ (.int .i64 (M.x + F))).setCell ⟨V1.heap.size, 1, none⟩ (.int .i64 (M.y - G))) = V4 at *
                      refine wpAnyH_done (by kernel_rfl) ?_ _
                      go_wp2_with fail; go_meet; exact ⟨⟨_, rfl, by omega, P23⟩, hE⟩
                  · go_simp
                    have hy : Ext V0 (V0.alloc (.cells #[.int .i64 0, .int .i64 0] 25)) := (Ext.refl V0).alloc _
                    have hE' := hE.trans hy
                    refine hK.out _ _ hE' (fun hHeld => ?_)
                    clear hK K
                    (try simp only [Act.put, Ord.a, Ord.b, Ord.c])
                    have P23 : Box (V0.alloc (.cells #[.int .i64 0, .int .i64 0] 25)) V0.heap.size [.int .i64 0, .int .i64 0] := Box.new (vs := [.int .i64 0, .int .i64 0]) rfl
                    have z23 := Ext.size hE
                    have y23 : V0.heap.size < (V0.alloc (.cells #[.int .i64 0, .int .i64 0] 25)).heap.size := by simp
                    replace hE := hE'
                    clear hE' hy
                    generalize V0.alloc (.cells #[.int .i64 0, .int .i64 0] 25) = V1 at *
                    refine wpAnyH_ready (rs := [8]) (by kernel_rfl) (by simp) ?_
                    refine (AllReadyH.cons rfl (fun K hK => ?_) AllReadyH.nil)
                    go_simp
                    go_at_call 129
                    refine (FE.out _).mono ?_
                    rintro e V2 ⟨rfl, hy⟩
                    go_wp2_with fail
                    have zy := Ext.size hy
                    have hE' := hE.trans hy
                    refine hK.out _ _ hE' (fun hHeld => ?_)
                    clear hK K
                    (try simp only [Act.put, Ord.a, Ord.b, Ord.c])
                    replace P23 := P23.ext hy
                    replace hE := hE'
                    clear hE' hy
                    refine Ord.K 9 75 ?_; refine Ord.K 10 76 ?_
                    refine wpAnyH_ready (rs := [19]) (by kernel_rfl) (by simp) ?_
                    refine (AllReadyH.cons rfl (fun K hK => ?_) AllReadyH.nil)
                    go_simp
                    go_at_call 129
                    refine (FS.out _).mono ?_
                    rintro e V3 ⟨rfl, hy⟩
                    go_wp2_with fail
                    have zy := Ext.size hy
                    have hE' := hE.trans hy
                    refine hK.out _ _ hE' (fun hHeld => ?_)
                    clear hK K
                    (try simp only [Act.put, Ord.a, Ord.b, Ord.c])
                    replace P23 := P23.ext hy
                    replace hE := hE'
                    clear hE' hy
                    refine Ord.K 20 86 ?_; refine Ord.K 21 87 ?_; refine Ord.K 22 88 ?_
                    refine wpAnyH_ready (rs := [24]) (by kernel_rfl) (by simp) ?_
                    refine (AllReadyH.cons rfl (fun K hK => ?_) AllReadyH.nil)
                    obtain ⟨⟨r0, r1⟩, r2, r3⟩ := P23.two
                    go_simp
                    have hE' : Ext wr ((V3.setCell ⟨V0.heap.size, 0, none⟩ (.int .i64 (M.x + F))).setCell ⟨V0.heap.size, 1, none⟩ (.int .i64 (M.y - G))) := ((hE.setNew (by first | omega | (simp; omega) | simp) _).setNew (by first | omega | (simp; omega) | simp) _)
                    refine hK.out _ _ hE' (fun hHeld => ?_)
                    clear hK K r0 r1 r2 r3
                    (try simp only [Act.put, Ord.a, Ord.b, Ord.c])
                    replace P23 := P23.set2 (u := .int .i64 (M.x + F)) (v := .int .i64 (M.y - G))
                    replace hE := hE'
                    clear hE'
                    generalize ((V3.setCell ⟨V0.heap.size, 0, none⟩ (.int .i64 (M.x + F))).setCell ⟨V0.heap.size, 1, none⟩ (.int .i64 (M.y - G))) = V4 at *
                    refine wpAnyH_done (by kernel_rfl) ?_ _
                    go_wp2_with fail; go_meet; exact ⟨⟨_, rfl, by omega, P23⟩, hE⟩
                case rest =>
                  obtain ⟨⟨Q, rfl, hQ, PQ⟩, hz⟩ := hcut
                  obtain ⟨⟨q0c, q1c⟩, _⟩ := PQ.two
                  clear e0 e1 e2 e3 m0 m1 m2 m3 T1 T2 T3 T4
                  have O5 := Lib.hid (OwnF.ext KO.out hz)
                  have S5 := Lib.hid (KS.out.ext hz)
                  have C5 := Lib.hid (KC.out.trans (Chg.of_ext hz))
                  have N5 := Lib.hid (KN.out.ext hz)
                  have R5 := Lib.hid (KR.out.ext hz)
                  have zz := Ext.size hz
                  clear KO KS KC KN KR
                  obtain ⟨X, hX⟩ : ∃ X, X = M.x + F := ⟨_, rfl⟩
                  obtain ⟨Y, hY⟩ : ∃ Y, Y = M.y - G := ⟨_, rfl⟩
                  rw [← hX] at q0c PQ
                  rw [← hY] at q1c PQ
                  clear hX hY
                  go_wp2_with fail
                  refine (isPoint_spec X Y _).mono ?_
                  rintro e w6 ⟨rfl, h6⟩
                  replace O5 := Lib.hid (OwnF.ext O5.out h6)
                  replace S5 := Lib.hid (S5.out.ext h6)
                  replace C5 := Lib.hid (C5.out.trans (Chg.of_ext h6))
                  replace N5 := Lib.hid (N5.out.ext h6)
                  replace R5 := Lib.hid (R5.out.ext h6)
                  have z6 := Ext.size h6
                  obtain ⟨⟨g0, g1⟩, _⟩ := (PQ.ext h6).two
                  clear q0c q1c PQ hz h6
                  cases hp : ptB X Y
                  · go_wp2
                    go_roundw
                    case rel => exact ⟨1, by go_num, by omega, fs2, z2, rfl, by omega, O5.out, KI.out, S5.out, C5.out, N5.out, R5.out⟩
                    case measure => simp [intOf]
                  · have OA := OwnF.ext O5.out ((Ext.refl w6).alloc (.cells #[.int .i64 z2, .int .i64 X, .int .i64 Y] 53))
                    have SA := Lib.hid (S5.out.alloc (.cells #[.int .i64 z2, .int .i64 X, .int .i64 Y] 53))
                    have CA := Lib.hid (C5.out.alloc (.cells #[.int .i64 z2, .int .i64 X, .int .i64 Y] 53))
                    have NA := Lib.hid (N5.out.ext ((Ext.refl w6).alloc (.cells #[.int .i64 z2, .int .i64 X, .int .i64 Y] 53)))
                    have RA := Lib.hid (R5.out.alloc (.cells #[.int .i64 z2, .int .i64 X, .int .i64 Y] 53))
                    have CC := Lib.hid (Trk.one_cells (w := w6) (t := z2) (x := X) (y := Y) (ty := 53))
                    have P1 := Lib.hid (Trk.one_ones (t := z2) (x := X) (y := Y))
                    have P3 := Lib.hid (show fs2.length + 1 ≤ maxLen by unfold maxLen; omega)
                    have P4 := Lib.hid (show (fs2.length + 1) * 24 ≤ 140737488355328 by omega)
                    have zA := Lib.hid (show w.heap.size + 1 + 1 ≤ (w6.alloc (.cells #[.int .i64 z2, .int .i64 X, .int .i64 Y] 53)).heap.size by simp; omega)
                    have eA : (w6.alloc (.cells #[.int .i64 z2, .int .i64 X, .int .i64 Y] 53)).heap.size = w6.heap.size + 1 := by simp
                    clear O5 S5 C5 N5 R5 hp
                    go_wp2_with (at_builtin; refine wpList_append_own_at _ rfl _ _ 31 rfl (w.heap.size + 1 + 1) 53 i0 (Trk.Fx 0 0 0) 3 24 Tryz.underlying31 hin hz0 hz1 hz2 rfl (by decide) _ fs2.length (cellsF fs2) rfl OA ⟨w6.heap.size, 0, none⟩ 1 1 [.int .i64 z2, .int .i64 X, .int .i64 Y] rfl rfl CC.out P1.out P3.out P4.out zA.out ?_; intro v1 w7 hown hgrow hnil hat; have O7 := Lib.hid (OwnF.snoc hown); have RI7 := Lib.hid (rowIn_step KI.out NA.out.size hat); have S7 := Lib.hid (Src.grown SA.out hgrow (fun q hq => by have := World.ownsRow.lt OA q hq; omega)); have C7 := Lib.hid (Trk.grown_chg OA hgrow (by omega) CA.out); have N7 := Lib.hid (ChgN.grown NA.out hgrow (fun q hq => rowIn_at KI.out hq)); have R7 := Lib.hid (Trk.grown_box OA hgrow (OwnF.block OA (by omega)) RA.out); have z7 := Lib.hid hgrow.size; clear hown hgrow hnil hat OA CC SA CA NA RA)
                    refine (next_pos B _ _ S7.out (by omega)).mono ?_
                    rintro e w8 ⟨r8, rfl, r80, r81, hs8, hc8⟩
                    have O8 := Lib.hid (OwnF.chg O7.out hc8 (OwnF.block O7.out (by omega)))
                    have C8 := Lib.hid (C7.out.trans hc8)
                    have N8 := Lib.hid (N7.out.chg hc8)
                    have R8 := Lib.hid (R7.out.chg hc8 (by omega))
                    have S8 := Lib.hid hs8
                    have L8 := Lib.hid (show (fs2 ++ [⟨z2, X, Y⟩] : List F3).length ≤ 2 * j + 1 by simp; omega)
                    clear hc8 hs8 O7 C7 N7 R7 S7
                    go_wp2
                    go_roundw
                    case rel => exact ⟨1, by go_num, by omega, _, _, rfl, L8.out, O8.out, RI7.out, S8.out, C8.out, N8.out, R8.out⟩
                    case measure => simp [intOf]
              | 1, _, hfl2 =>
                have T1 : IntKind.i64.wrap (-F) = -F := IntWalk.i64_in _ (by omega)
                have T2 : IntKind.i64.wrap (-G) = -G := IntWalk.i64_in _ (by omega)
                have T3 : IntKind.i64.wrap (M.x + -F) = M.x + -F := IntWalk.i64_in _ (by omega)
                have T4 : IntKind.i64.wrap (M.y + G) = M.y + G := IntWalk.i64_in _ (by omega)
                have e0 : ∀ w', Ext wr w' → w'.cell? ⟨wB.heap.size, 0, none⟩ = some (.int .i64 M.x) := fun w' h => h.cellOf m0
                have e1 : ∀ w', Ext wr w' → w'.cell? ⟨wB.heap.size, 1, none⟩ = some (.int .i64 M.y) := fun w' h => h.cellOf m1
                have e2 : ∀ w', Ext wr w' → w'.cell? ⟨wC.heap.size, 0, none⟩ = some (.int .i64 dx) := fun w' h => h.cellOf m2
                have e3 : ∀ w', Ext wr w' → w'.cell? ⟨wC.heap.size, 1, none⟩ = some (.int .i64 dy) := fun w' h => h.cellOf m3
                go_upto_region 20 with fail
                go_cut [16] (fun s wy => (∃ Q, s = .pointer (some ⟨Q, 0, none⟩) ∧ wr.heap.size ≤ Q ∧ Box wy Q [.int .i64 (M.x + -F), .int .i64 (M.y + G)]) ∧ Ext wr wy)
                case first =>
                  clear m0 m1 m2 m3
                  refine wp_region_held_drew (S := fun w' => Ext wr w') (by kernel_rfl) (by (try dsimp only); exact Ext.drew (Ext.refl wr)) (fun hHeld => ?_)
                  have hE : Ext wr wr.drew := Ext.drew (Ext.refl wr)
                  obtain ⟨V0, hV0⟩ : ∃ V0, V0 = wr.drew := ⟨_, rfl⟩
                  rw [← hV0] at hE hHeld ⊢
                  clear hV0
                  refine Ord.K 0 66 ?_; refine Ord.K 2 68 ?_; refine Ord.K 3 69 ?_; refine Ord.K 5 71 ?_; refine Ord.K 7 73 ?_; refine Ord.K 11 77 ?_; refine Ord.K 13 79 ?_; refine Ord.K 14 80 ?_; refine Ord.K 16 82 ?_; refine Ord.K 18 84 ?_; refine Ord.K 1 67 ?_; refine Ord.K 4 70 ?_; refine Ord.K 12 78 ?_; refine Ord.K 15 81 ?_; refine Ord.K 6 72 ?_; refine Ord.K 17 83 ?_
                  refine wpAnyH_ready (rs := [8, 23]) (by kernel_rfl) (by simp) ?_
                  refine (AllReadyH.cons rfl (fun K hK => ?_) (AllReadyH.cons rfl (fun K hK => ?_) AllReadyH.nil))
                  · go_simp
                    go_at_call 129
                    refine (FE.out _).mono ?_
                    rintro e V1 ⟨rfl, hy⟩
                    go_wp2_with fail
                    have zy := Ext.size hy
                    have hE' := hE.trans hy
                    refine hK.out _ _ hE' (fun hHeld => ?_)
                    clear hK K
                    (try simp only [Act.put, Ord.a, Ord.b, Ord.c])
                    replace hE := hE'
                    clear hE' hy
                    refine Ord.K 9 75 ?_; refine Ord.K 10 76 ?_
                    refine wpAnyH_ready (rs := [19, 23]) (by kernel_rfl) (by simp) ?_
                    refine (AllReadyH.cons rfl (fun K hK => ?_) (AllReadyH.cons rfl (fun K hK => ?_) AllReadyH.nil))
                    · go_simp
                      go_at_call 129
                      refine (FS.out _).mono ?_
                      rintro e V2 ⟨rfl, hy⟩
                      go_wp2_with fail
                      have zy := Ext.size hy
                      have hE' := hE.trans hy
                      refine hK.out _ _ hE' (fun hHeld => ?_)
                      clear hK K
                      (try simp only [Act.put, Ord.a, Ord.b, Ord.c])
                      replace hE := hE'
                      clear hE' hy
                      refine Ord.K 20 86 ?_; refine Ord.K 21 87 ?_; refine Ord.K 22 88 ?_
                      refine wpAnyH_ready (rs := [23]) (by kernel_rfl) (by simp) ?_
                      refine (AllReadyH.cons rfl (fun K hK => ?_) AllReadyH.nil)
                      go_simp
                      have hy : Ext V2 (V2.alloc (.cells #[.int .i64 0, .int .i64 0] 25)) := (Ext.refl V2).alloc _
                      have hE' := hE.trans hy
                      refine hK.out _ _ hE' (fun hHeld => ?_)
                      clear hK K
                      (try simp only [Act.put, Ord.a, Ord.b, Ord.c])
                      have P23 : Box (V2.alloc (.cells #[.int .i64 0, .int .i64 0] 25)) V2.heap.size [.int .i64 0, .int .i64 0] := Box.new (vs := [.int .i64 0, .int .i64 0]) rfl
                      have z23 := Ext.size hE
                      have y23 : V2.heap.size < (V2.alloc (.cells #[.int .i64 0, .int .i64 0] 25)).heap.size := by simp
                      replace hE := hE'
                      clear hE' hy
                      generalize V2.alloc (.cells #[.int .i64 0, .int .i64 0] 25) = V3 at *
                      refine wpAnyH_ready (rs := [24]) (by kernel_rfl) (by simp) ?_
                      refine (AllReadyH.cons rfl (fun K hK => ?_) AllReadyH.nil)
                      obtain ⟨⟨r0, r1⟩, r2, r3⟩ := P23.two
                      go_simp
                      have hE' : Ext wr ((V3.setCell ⟨V2.heap.size, 0, none⟩ (.int .i64 (M.x + -F))).setCell ⟨V2.heap.size, 1, none⟩ (.int .i64 (M.y + G))) := ((hE.setNew (by first | omega | (simp; omega) | simp) _).setNew (by first | omega | (simp; omega) | simp) _)
                      refine hK.out _ _ hE' (fun hHeld => ?_)
                      clear hK K r0 r1 r2 r3
                      (try simp only [Act.put, Ord.a, Ord.b, Ord.c])
                      replace P23 := P23.set2 (u := .int .i64 (M.x + -F)) (v := .int .i64 (M.y + G))
                      replace hE := hE'
                      clear hE'
                      generalize ((V3.setCell ⟨V2.heap.size, 0, none⟩ (.int .i64 (M.x + -F))).setCell ⟨V2.heap.size, 1, none⟩ (.int .i64 (M.y + G))) = V4 at *
                      refine wpAnyH_done (by kernel_rfl) ?_ _
                      go_wp2_with fail; go_meet; exact ⟨⟨_, rfl, by omega, P23⟩, hE⟩
                    · go_simp
                      have hy : Ext V1 (V1.alloc (.cells #[.int .i64 0, .int .i64 0] 25)) := (Ext.refl V1).alloc _
                      have hE' := hE.trans hy
                      refine hK.out _ _ hE' (fun hHeld => ?_)
                      clear hK K
                      (try simp only [Act.put, Ord.a, Ord.b, Ord.c])
                      have P23 : Box (V1.alloc (.cells #[.int .i64 0, .int .i64 0] 25)) V1.heap.size [.int .i64 0, .int .i64 0] := Box.new (vs := [.int .i64 0, .int .i64 0]) rfl
                      have z23 := Ext.size hE
                      have y23 : V1.heap.size < (V1.alloc (.cells #[.int .i64 0, .int .i64 0] 25)).heap.size := by simp
                      replace hE := hE'
                      clear hE' hy
                      generalize V1.alloc (.cells #[.int .i64 0, .int .i64 0] 25) = V2 at *
                      refine wpAnyH_ready (rs := [19]) (by kernel_rfl) (by simp) ?_
                      refine (AllReadyH.cons rfl (fun K hK => ?_) AllReadyH.nil)
                      go_simp
                      go_at_call 129
                      refine (FS.out _).mono ?_
                      rintro e V3 ⟨rfl, hy⟩
                      go_wp2_with fail
                      have zy := Ext.size hy
                      have hE' := hE.trans hy
                      refine hK.out _ _ hE' (fun hHeld => ?_)
                      clear hK K
                      (try simp only [Act.put, Ord.a, Ord.b, Ord.c])
                      replace P23 := P23.ext hy
                      replace hE := hE'
                      clear hE' hy
                      refine Ord.K 20 86 ?_; refine Ord.K 21 87 ?_; refine Ord.K 22 88 ?_
                      refine wpAnyH_ready (rs := [24]) (by kernel_rfl) (by simp) ?_
                      refine (AllReadyH.cons rfl (fun K hK => ?_) AllReadyH.nil)
                      obtain ⟨⟨r0, r1⟩, r2, r3⟩ := P23.two
                      go_simp
                      have hE' : Ext wr ((V3.setCell ⟨V1.heap.size, 0, none⟩ (.int .i64 (M.x + -F))).setCell ⟨V1.heap.size, 1, none⟩ (.int .i64 (M.y + G))) := ((hE.setNew (by first | omega | (simp; omega) | simp) _).setNew (by first | omega | (simp; omega) | simp) _)
                      refine hK.out _ _ hE' (fun hHeld => ?_)
                      clear hK K r0 r1 r2 r3
                      (try simp only [Act.put, Ord.a, Ord.b, Ord.c])
                      replace P23 := P23.set2 (u := .int .i64 (M.x + -F)) (v := .int .i64 (M.y + G))
                      replace hE := hE'
                      clear hE'
                      generalize ((V3.setCell ⟨V1.heap.size, 0, none⟩ (.int .i64 (M.x + -F))).setCell ⟨V1.heap.size, 1, none⟩ (.int .i64 (M.y + G))) = V4 at *
                      refine wpAnyH_done (by kernel_rfl) ?_ _
                      go_wp2_with fail; go_meet; exact ⟨⟨_, rfl, by omega, P23⟩, hE⟩
                  · go_simp
                    have hy : Ext V0 (V0.alloc (.cells #[.int .i64 0, .int .i64 0] 25)) := (Ext.refl V0).alloc _
                    have hE' := hE.trans hy
                    refine hK.out _ _ hE' (fun hHeld => ?_)
                    clear hK K
                    (try simp only [Act.put, Ord.a, Ord.b, Ord.c])
                    have P23 : Box (V0.alloc (.cells #[.int .i64 0, .int .i64 0] 25)) V0.heap.size [.int .i64 0, .int .i64 0] := Box.new (vs := [.int .i64 0, .int .i64 0]) rfl
                    have z23 := Ext.size hE
                    have y23 : V0.heap.size < (V0.alloc (.cells #[.int .i64 0, .int .i64 0] 25)).heap.size := by simp
                    replace hE := hE'
                    clear hE' hy
                    generalize V0.alloc (.cells #[.int .i64 0, .int .i64 0] 25) = V1 at *
                    refine wpAnyH_ready (rs := [8]) (by kernel_rfl) (by simp) ?_
                    refine (AllReadyH.cons rfl (fun K hK => ?_) AllReadyH.nil)
                    go_simp
                    go_at_call 129
                    refine (FE.out _).mono ?_
                    rintro e V2 ⟨rfl, hy⟩
                    go_wp2_with fail
                    have zy := Ext.size hy
                    have hE' := hE.trans hy
                    refine hK.out _ _ hE' (fun hHeld => ?_)
                    clear hK K
                    (try simp only [Act.put, Ord.a, Ord.b, Ord.c])
                    replace P23 := P23.ext hy
                    replace hE := hE'
                    clear hE' hy
                    refine Ord.K 9 75 ?_; refine Ord.K 10 76 ?_
                    refine wpAnyH_ready (rs := [19]) (by kernel_rfl) (by simp) ?_
                    refine (AllReadyH.cons rfl (fun K hK => ?_) AllReadyH.nil)
                    go_simp
                    go_at_call 129
                    refine (FS.out _).mono ?_
                    rintro e V3 ⟨rfl, hy⟩
                    go_wp2_with fail
                    have zy := Ext.size hy
                    have hE' := hE.trans hy
                    refine hK.out _ _ hE' (fun hHeld => ?_)
                    clear hK K
                    (try simp only [Act.put, Ord.a, Ord.b, Ord.c])
                    replace P23 := P23.ext hy
                    replace hE := hE'
                    clear hE' hy
                    refine Ord.K 20 86 ?_; refine Ord.K 21 87 ?_; refine Ord.K 22 88 ?_
                    refine wpAnyH_ready (rs := [24]) (by kernel_rfl) (by simp) ?_
                    refine (AllReadyH.cons rfl (fun K hK => ?_) AllReadyH.nil)
                    obtain ⟨⟨r0, r1⟩, r2, r3⟩ := P23.two
                    go_simp
                    have hE' : Ext wr ((V3.setCell ⟨V0.heap.size, 0, none⟩ (.int .i64 (M.x + -F))).setCell ⟨V0.heap.size, 1, none⟩ (.int .i64 (M.y + G))) := ((hE.setNew (by first | omega | (simp; omega) | simp) _).setNew (by first | omega | (simp; omega) | simp) _)
                    refine hK.out _ _ hE' (fun hHeld => ?_)
                    clear hK K r0 r1 r2 r3
                    (try simp only [Act.put, Ord.a, Ord.b, Ord.c])
                    replace P23 := P23.set2 (u := .int .i64 (M.x + -F)) (v := .int .i64 (M.y + G))
                    replace hE := hE'
                    clear hE'
                    generalize ((V3.setCell ⟨V0.heap.size, 0, none⟩ (.int .i64 (M.x + -F))).setCell ⟨V0.heap.size, 1, none⟩ (.int .i64 (M.y + G))) = V4 at *
                    refine wpAnyH_done (by kernel_rfl) ?_ _
                    go_wp2_with fail; go_meet; exact ⟨⟨_, rfl, by omega, P23⟩, hE⟩
                case rest =>
                  obtain ⟨⟨Q, rfl, hQ, PQ⟩, hz⟩ := hcut
                  obtain ⟨⟨q0c, q1c⟩, _⟩ := PQ.two
                  clear e0 e1 e2 e3 m0 m1 m2 m3 T1 T2 T3 T4
                  have O5 := Lib.hid (OwnF.ext KO.out hz)
                  have S5 := Lib.hid (KS.out.ext hz)
                  have C5 := Lib.hid (KC.out.trans (Chg.of_ext hz))
                  have N5 := Lib.hid (KN.out.ext hz)
                  have R5 := Lib.hid (KR.out.ext hz)
                  have zz := Ext.size hz
                  clear KO KS KC KN KR
                  obtain ⟨X, hX⟩ : ∃ X, X = M.x + -F := ⟨_, rfl⟩
                  obtain ⟨Y, hY⟩ : ∃ Y, Y = M.y + G := ⟨_, rfl⟩
                  rw [← hX] at q0c PQ
                  rw [← hY] at q1c PQ
                  clear hX hY
                  go_wp2_with fail
                  refine (isPoint_spec X Y _).mono ?_
                  rintro e w6 ⟨rfl, h6⟩
                  replace O5 := Lib.hid (OwnF.ext O5.out h6)
                  replace S5 := Lib.hid (S5.out.ext h6)
                  replace C5 := Lib.hid (C5.out.trans (Chg.of_ext h6))
                  replace N5 := Lib.hid (N5.out.ext h6)
                  replace R5 := Lib.hid (R5.out.ext h6)
                  have z6 := Ext.size h6
                  obtain ⟨⟨g0, g1⟩, _⟩ := (PQ.ext h6).two
                  clear q0c q1c PQ hz h6
                  cases hp : ptB X Y
                  · go_wp2
                    go_roundw
                    case rel => exact ⟨2, by go_num, by omega, fs2, z2, rfl, by omega, O5.out, KI.out, S5.out, C5.out, N5.out, R5.out⟩
                    case measure => simp [intOf]
                  · have OA := OwnF.ext O5.out ((Ext.refl w6).alloc (.cells #[.int .i64 z2, .int .i64 X, .int .i64 Y] 53))
                    have SA := Lib.hid (S5.out.alloc (.cells #[.int .i64 z2, .int .i64 X, .int .i64 Y] 53))
                    have CA := Lib.hid (C5.out.alloc (.cells #[.int .i64 z2, .int .i64 X, .int .i64 Y] 53))
                    have NA := Lib.hid (N5.out.ext ((Ext.refl w6).alloc (.cells #[.int .i64 z2, .int .i64 X, .int .i64 Y] 53)))
                    have RA := Lib.hid (R5.out.alloc (.cells #[.int .i64 z2, .int .i64 X, .int .i64 Y] 53))
                    have CC := Lib.hid (Trk.one_cells (w := w6) (t := z2) (x := X) (y := Y) (ty := 53))
                    have P1 := Lib.hid (Trk.one_ones (t := z2) (x := X) (y := Y))
                    have P3 := Lib.hid (show fs2.length + 1 ≤ maxLen by unfold maxLen; omega)
                    have P4 := Lib.hid (show (fs2.length + 1) * 24 ≤ 140737488355328 by omega)
                    have zA := Lib.hid (show w.heap.size + 1 + 1 ≤ (w6.alloc (.cells #[.int .i64 z2, .int .i64 X, .int .i64 Y] 53)).heap.size by simp; omega)
                    have eA : (w6.alloc (.cells #[.int .i64 z2, .int .i64 X, .int .i64 Y] 53)).heap.size = w6.heap.size + 1 := by simp
                    clear O5 S5 C5 N5 R5 hp
                    go_wp2_with (at_builtin; refine wpList_append_own_at _ rfl _ _ 31 rfl (w.heap.size + 1 + 1) 53 i0 (Trk.Fx 0 0 0) 3 24 Tryz.underlying31 hin hz0 hz1 hz2 rfl (by decide) _ fs2.length (cellsF fs2) rfl OA ⟨w6.heap.size, 0, none⟩ 1 1 [.int .i64 z2, .int .i64 X, .int .i64 Y] rfl rfl CC.out P1.out P3.out P4.out zA.out ?_; intro v1 w7 hown hgrow hnil hat; have O7 := Lib.hid (OwnF.snoc hown); have RI7 := Lib.hid (rowIn_step KI.out NA.out.size hat); have S7 := Lib.hid (Src.grown SA.out hgrow (fun q hq => by have := World.ownsRow.lt OA q hq; omega)); have C7 := Lib.hid (Trk.grown_chg OA hgrow (by omega) CA.out); have N7 := Lib.hid (ChgN.grown NA.out hgrow (fun q hq => rowIn_at KI.out hq)); have R7 := Lib.hid (Trk.grown_box OA hgrow (OwnF.block OA (by omega)) RA.out); have z7 := Lib.hid hgrow.size; clear hown hgrow hnil hat OA CC SA CA NA RA)
                    refine (next_pos B _ _ S7.out (by omega)).mono ?_
                    rintro e w8 ⟨r8, rfl, r80, r81, hs8, hc8⟩
                    have O8 := Lib.hid (OwnF.chg O7.out hc8 (OwnF.block O7.out (by omega)))
                    have C8 := Lib.hid (C7.out.trans hc8)
                    have N8 := Lib.hid (N7.out.chg hc8)
                    have R8 := Lib.hid (R7.out.chg hc8 (by omega))
                    have S8 := Lib.hid hs8
                    have L8 := Lib.hid (show (fs2 ++ [⟨z2, X, Y⟩] : List F3).length ≤ 2 * j + 2 by simp; omega)
                    clear hc8 hs8 O7 C7 N7 R7 S7
                    go_wp2
                    go_roundw
                    case rel => exact ⟨2, by go_num, by omega, _, _, rfl, L8.out, O8.out, RI7.out, S8.out, C8.out, N8.out, R8.out⟩
                    case measure => simp [intOf]
              | 2, _, hfl2 =>
                have O9 := KO
                go_wp2
                go_roundw
                case rel => exact ⟨j + 1, by go_num, by omega, fs2, z2, rfl, by omega, KO.out, rowIn_trans KI.out HRI.out hq0 hq1 Nx.out.size, KS.out, KC.out, Nx.out.trans KN.out hq1, KR.out⟩
                case measure => simp [intOf]; omega
        · obtain rfl : j = ls.length := by omega
          obtain ⟨a4, c4, ho4, hcap4, _, hsrc⟩ := OwnF.fxs HO.out
          obtain ⟨q, hq0, hq1⟩ := HRI.out
          have hqr := World.ownsRow.lt HO.out q hq0
          by_cases h2 : fs.length < 2
          · have h2i : (fs.length : Int) < 2 := by omega
            subst ho4
            go_wp2_with fail
            refine (drawT_any B _ HS.out).mono ?_
            rintro e w4 ⟨g, c3, n3, rfl, h1, h41, hcap, hg, hI, hs3, hc3⟩
            have hgl2 : g < w4.heap.size := World.block_lt_of_cell? w4 _ (hI 0 (by omega)).1.choose_spec
            have zr := HC.out.size
            have R4 := HR.out.chg hc3 (by omega)
            obtain ⟨r0, r1⟩ := R4 0 _ rfl
            have hk : Chg (w.heap.size + 1) w4 (w4.setCell ⟨w.heap.size + 1, 0, none⟩ (.slice (some ⟨g, 0, none⟩) n3 c3)) := (Chg.refl _ _).setCell _ _
            have R5 := Lib.hid (show Box (w4.setCell ⟨w.heap.size + 1, 0, none⟩ (.slice (some ⟨g, 0, none⟩) n3 c3)) (w.heap.size + 1) [.slice (some ⟨g, 0, none⟩) n3 c3] from R4.set 0 (by simp) _)
            have z3 := HN.out.size
            have I4 := Lib.hid (hI.chg hk (by omega))
            have S4 := Lib.hid (hs3.setCell (p := ⟨w.heap.size + 1, 0, none⟩) (by simp; omega) (.slice (some ⟨g, 0, none⟩) n3 c3))
            have C4 := Lib.hid ((HC.out.trans hc3).setNew (p := ⟨w.heap.size + 1, 0, none⟩) (by simp) (.slice (some ⟨g, 0, none⟩) n3 c3))
            clear hk
            go_wp2
            exact ds_done R5.out h1 h41 hcap (by omega) I4.out S4.out C4.out rfl
          · have h2i : ¬ (fs.length : Int) < 2 := by omega
            have h41 : fs.length ≤ 41 := by omega
            rcases hsrc with h | ⟨g, rfl, hg, hW⟩
            · rw [h] at h2; simp at h2
            · subst ho4
              have I0 := Lib.hid hW.ints
              obtain ⟨r0, r1⟩ := HR.out 0 _ rfl
              have zr := HC.out.size
              have hk : Chg (w.heap.size + 1) wr (wr.setCell ⟨w.heap.size + 1, 0, none⟩ (.slice (some ⟨g, 0, none⟩) fs.length c4)) := (Chg.refl _ _).setCell _ _
              have R5 := Lib.hid (show Box (wr.setCell ⟨w.heap.size + 1, 0, none⟩ (.slice (some ⟨g, 0, none⟩) fs.length c4)) (w.heap.size + 1) [.slice (some ⟨g, 0, none⟩) fs.length c4] from HR.out.set 0 (by simp) _)
              have I4 := Lib.hid (I0.out.chg hk (by omega))
              have S4 := Lib.hid (HS.out.setCell (p := ⟨w.heap.size + 1, 0, none⟩) (by simp; omega) (.slice (some ⟨g, 0, none⟩) fs.length c4))
              have C4 := Lib.hid (HC.out.setNew (p := ⟨w.heap.size + 1, 0, none⟩) (by simp) (.slice (some ⟨g, 0, none⟩) fs.length c4))
              clear hk hW
              go_wp2
              exact ds_done R5.out (by omega) h41 hcap4 (by omega) I4.out S4.out C4.out rfl
end Go.Proofs.YtmlojndkpnhalaaGreat.Crs
