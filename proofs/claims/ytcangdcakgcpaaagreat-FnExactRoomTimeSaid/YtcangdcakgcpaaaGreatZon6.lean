import Derived.Test.YtcangdcakgcpaaaGreatZon5
import Derived.Test.YtcangdcakgcpaaaGreatSid
import Derived.Test.YtcangdcakgcpaaaGreatIpd
namespace Go.Proofs.YtcangdcakgcpaaaGreat.Crs
open Go.ChangeShapes Go.WideShapes Go.ChangeAt Go.RowKit Go.PlainAid
open Go.Proofs.YtcangdcakgcpaaaGreat.Num Go.Proofs.YtcangdcakgcpaaaGreat.Kit Go.Proofs.YtcangdcakgcpaaaGreat.Pts Go.Proofs.YtcangdcakgcpaaaGreat.Seg Go.Proofs.YtcangdcakgcpaaaGreat.Div Go.Proofs.YtcangdcakgcpaaaGreat.Root Go.Proofs.YtcangdcakgcpaaaGreat.Rt Go.Proofs.YtcangdcakgcpaaaGreat.Gcd
open Go.Proofs.YtcangdcakgcpaaaGreat.Trk (F3 Fxs Tr trB fx)
open Go.Proofs.YtcangdcakgcpaaaGreat.Win (wiB)
set_option linter.unusedVariables false
set_option linter.unusedSimpArgs false
def lzZ (l k : L4) (ms : List M5) (fs : List F3) (n : Int) : List Int := if mfC l k ms (trB fs) n = 0 then tzL (mk ms n.toNat) fs else []
def LzA (w : World) (l k : L4) (ms : List M5) (fs : List F3) (n : Int) (e : Ending) (w' : World) : Prop :=
  ∃ v, e = .returned (.tuple #[v, .int .i64 (mfC l k ms (trB fs) n)]) ∧ OwnZ w' w.heap.size v (lzZ l k ms fs n) ∧ Ext w w'
theorem lz_bad {l k : L4} {ms : List M5} {fs : List F3} {n : Int} (h : mfC l k ms (trB fs) n ≠ 0) : lzZ l k ms fs n = [] := if_neg h
theorem lz_yes {l k : L4} {ms : List M5} {fs : List F3} {i : Nat} (h : mfC l k ms (trB fs) i = 0) : lzZ l k ms fs i = tzL (mk ms i) fs := by unfold lzZ; rw [if_pos h]; simp
set_option maxRecDepth 100000 in
set_option maxHeartbeats 8000000 in
theorem legsInZone_spec (l k : L4) (a : Option Addr) (cap : Nat) (ms : List M5) (n : Int) (at_ : Option Addr) (ct : Nat) (fs : List F3) (w : World) (hf : Mks w a ms) (ht : Fxs w at_ fs) :
    Calls Tryz.prog 15 #[CV l k (.slice a ms.length cap), .int .i64 n, Tr (.slice at_ fs.length ct)] w (LzA w l k ms fs n) := by
  obtain ⟨W0, hW0⟩ : ∃ W0, W0 = (w.alloc (.cells (cellsC l k (.slice a ms.length cap)).toArray 30)).alloc (.cells #[.slice at_ fs.length ct] 41) := ⟨_, rfl⟩
  have HW := Lib.hid (show Ext w W0 from hW0 ▸ ((Ext.refl w).alloc _).alloc _)
  have BB := Lib.hid (show Box W0 w.heap.size (cellsC l k (.slice a ms.length cap)) from hW0 ▸ (Box.new rfl).alloc _)
  have ctt : W0.cell? ⟨w.heap.size + 1, 0, none⟩ = some (.slice at_ fs.length ct) := hW0 ▸ boxed 0 rfl (by simp)
  have CT := Lib.hid ctt
  have HF := Lib.hid (hf.ext HW.out)
  have HT := Lib.hid (ht.ext HW.out)
  clear hf ht ctt
  have KL := Lib.hid (l07Code_spec l k a cap ms n at_ ct fs W0 HF.out HT.out)
  by_cases g : mfC l k ms (trB fs) n = 0
  rotate_left
  · have HY := Lib.hid (lz_bad g)
    have g1 : (mfC l k ms (trB fs) n != 0) = true := by simp [g]
    have g2 : (mfC l k ms (trB fs) n == 0) = false := beq_eq_false_iff_ne.2 g
    obtain ⟨C, hC⟩ : ∃ C, C = mfC l k ms (trB fs) n := ⟨_, rfl⟩
    have HC := Lib.hid hC
    rw [← hC] at KL g1 g2
    clear g hC
    go_enter Tryz.func15, Tryz.ntmps15
    go_wp2_with fail
    rw [← hW0]
    clear hW0
    refine KL.out.mono ?_
    rintro e w1 ⟨rfl, hx⟩
    go_wp2
    go_ret2
    exact ⟨_, ret_vi HC.out.symm, by rw [HY.out]; exact World.ownsRow_lit (base := w.heap.size) (e := 2) (size := 1) w1 #[] 0 (Ext.size (HW.out.trans hx)) (by unfold maxLen; omega) rfl, HW.out.trans (hx.alloc _)⟩
  obtain ⟨hq, hv, hn⟩ := mf_zero g
  obtain ⟨i, rfl⟩ : ∃ i : Nat, n = i := ⟨n.toNat, by omega⟩
  have hi : i < ms.length := by omega
  have hm := cr_mk hq hi
  have h2 := (Trk.trB_yes hv).1.1
  have HY := Lib.hid (And.intro (lz_yes g) g)
  rw [g] at KL
  have KT := Lib.hid (fun w' h => legs_spec (mk ms i) at_ ct fs w' h hv hm)
  obtain ⟨b, off, rfl, hb⟩ := HF.out.row (by omega)
  obtain ⟨k0, k1, k2, k3, k4⟩ := hb i hi
  clear g hq hv hn hm hb
  obtain ⟨m, hmm⟩ : ∃ m, m = mk ms i := ⟨_, rfl⟩
  rw [← hmm] at HY KT k0 k1 k2 k3 k4
  clear hmm
  have r0 : (0 : Int) ≤ (i : Int) := by omega
  have r1 : (i : Int) < (ms.length : Int) := by omega
  go_enter Tryz.func15, Tryz.ntmps15
  go_wp2_with fail
  rw [← hW0]
  clear hW0
  refine KL.out.mono ?_
  rintro e w1 ⟨rfl, hx⟩
  have X2 := Lib.hid hx
  obtain ⟨⟨p0, p1, p2, p3, p4, p5, p6, p7, p8⟩, _⟩ := Box.nine (BB.out.ext X2.out)
  have f9 : ∀ w', Ext w1 w' → w'.cell? ⟨w.heap.size + 1, 0, none⟩ = some (.slice at_ fs.length ct) := fun w' h => h.cellOf (X2.out.cellOf CT.out)
  have f8 : ∀ w', Ext w1 w' → w'.cell? ⟨w.heap.size, 8, none⟩ = some (.slice (some ⟨b, off, none⟩) ms.length cap) := fun w' h => h.cellOf p8
  have g0 : ∀ w', Ext w1 w' → w'.cell? ⟨b, off + i * 5, none⟩ = some (.string m.n) := fun w' h => h.cellOf (X2.out.cellOf k0)
  have g1 : ∀ w', Ext w1 w' → w'.cell? ⟨b, off + i * 5 + 1, none⟩ = some (.int .i64 m.x) := fun w' h => h.cellOf (X2.out.cellOf k1)
  have g2 : ∀ w', Ext w1 w' → w'.cell? ⟨b, off + i * 5 + 2, none⟩ = some (.int .i64 m.y) := fun w' h => h.cellOf (X2.out.cellOf k2)
  have g3 : ∀ w', Ext w1 w' → w'.cell? ⟨b, off + i * 5 + 3, none⟩ = some (.int .i64 m.s) := fun w' h => h.cellOf (X2.out.cellOf k3)
  have g4 : ∀ w', Ext w1 w' → w'.cell? ⟨b, off + i * 5 + 4, none⟩ = some (.int .i64 m.z) := fun w' h => h.cellOf (X2.out.cellOf k4)
  clear p0 p1 p2 p3 p4 p5 p6 p7 p8 k0 k1 k2 k3 k4
  go_upto_region 4 with fail
  refine wp_region_held_drew (S := (fun w' => Ext w1 w')) (by kernel_rfl) (by (try dsimp only); first | go_keep | exact (Ext.refl _).drew | exact Res.new2.drew | exact Res.new4.drew | exact ResB.drew (by assumption) | exact ResC.drew (by assumption) | assumption | exact Ext.drew (by assumption) | exact Res.drew (by assumption)) (fun hHeld => ?_)
  refine Ord.K 0 17 ?_
  refine Ord.K 1 18 ?_
  refine Ord.K 2 19 ?_
  refine Ord.K 3 20 ?_
  refine Ord.K 4 21 ?_
  refine Ord.K 5 22 ?_
  (refine wpAnyH_ready (rs := [6]) (by kernel_rfl) (by simp) ?_; refine AllReadyH.cons rfl (fun K hK => ?_) AllReadyH.nil; go_simp; ((go_at_call 47; refine (KT.out _ (HT.out.ext (X2.out.trans (by first | assumption | exact (Ext.refl _).drew)))).mono ?_; rintro e w4 ⟨v, rfl, hO, hy⟩)); go_wp2_with fail; (refine hK.out _ _ (by first | assumption | exact Ext.trans (by assumption) hy | exact Res.ext (by assumption) hy | exact ResB.ext (by assumption) hy | exact ResC.ext (by assumption) hy | (go_split_ands; (repeat' apply And.intro) <;> exact Ext.cellOf hy (by assumption))) (fun hHeld => ?_)); clear hK K; (try simp only [Act.put, Ord.a, Ord.b, Ord.c]))
  refine Ord.K 7 6 ?_
  refine Ord.K 8 7 ?_
  refine wpAnyH_done (by kernel_rfl) ?_ _
  go_wp2
  go_ret2
  exact ⟨_, ret_vi HY.out.2, by rw [HY.out.1]; exact hO.mono (Ext.size (HW.out.trans (X2.out.drew))), HW.out.trans (X2.out.trans hHeld)⟩
end Go.Proofs.YtcangdcakgcpaaaGreat.Crs
