/- The table of boats that keep clear (chapter 10): the words, and the rows of it (impl). -/
import Derived.Test.YtcangdcakgcpaaaRul3
import Derived.Test.YtcangdcakgcpaaaBts
import Derived.Test.YtcangdcakgcpaaaRri
import Derived.OwnWalk
import Derived.Laws.OwnMore
namespace Go.Proofs.Ytcangdcakgcpaaa.Kct
open Go.ChangeShapes Go.WideShapes Go.ChangeAt Go.RowKit Go.PlainAid
open Go.Proofs.Ytcangdcakgcpaaa.Num Go.Proofs.Ytcangdcakgcpaaa.Kit Go.Proofs.Ytcangdcakgcpaaa.Pts Go.Proofs.Ytcangdcakgcpaaa.Seg Go.Proofs.Ytcangdcakgcpaaa.Wnd Go.Proofs.Ytcangdcakgcpaaa.Hul Go.Proofs.Ytcangdcakgcpaaa.Rul Go.Proofs.Ytcangdcakgcpaaa.Bts Go.Proofs.Ytcangdcakgcpaaa.Rwz Go.Proofs.Ytcangdcakgcpaaa.Rri
open Go.Proofs.Ytcangdcakgcpaaa.Mnv (row_ext row_mono row_grown)
set_option linter.unusedVariables false
set_option linter.unusedSimpArgs false

/-- Are all hulls valid? -/
def btB (bs : List B6) : Bool := (List.range bs.length).all fun i => hlB (bx bs i).a (bx bs i).b (bx bs i).c (bx bs i).d (bx bs i).n
theorem bt_no {bs : List B6} {j : Nat} (hj : j < bs.length) (h : hlB (bx bs j).a (bx bs j).b (bx bs j).c (bx bs j).d (bx bs j).n = false) : btB bs = false :=
  List.all_eq_false.2 ⟨j, by simpa using hj, by simp [h]⟩
theorem bt_all {bs : List B6} (h : ∀ j, j < bs.length → hlB (bx bs j).a (bx bs j).b (bx bs j).c (bx bs j).d (bx bs j).n = true) : btB bs = true :=
  List.all_eq_true.2 fun j hj => h j (by simpa using hj)
theorem bt_yes {bs : List B6} (h : btB bs = true) {j : Nat} (hj : j < bs.length) : hlB (bx bs j).a (bx bs j).b (bx bs j).c (bx bs j).d (bx bs j).n = true := List.all_eq_true.1 h j (by simpa using hj)
/-- The keeper of two boats, and the reason. -/
def rkB (x y : Int) (p q : B6) : Int := ruK x y p.a p.b p.c p.d p.n p.s q.a q.b q.c q.d q.n q.s
def rsB (x y : Int) (p q : B6) : Int := ruR x y p.a p.b p.c p.d p.n p.s q.a q.b q.c q.d q.n q.s
/-- Of which of the first n boats has boat i to keep clear? -/
def kbN (x y : Int) (bs : List B6) (i : Nat) : Nat → List Int
  | 0 => []
  | n + 1 => if n ≠ i ∧ rkB x y (bx bs i) (bx bs n) = 1 then kbN x y bs i n ++ [(n : Int)] else kbN x y bs i n
theorem kb_yes {x y : Int} {bs : List B6} {i n : Nat} (h : n ≠ i) (g : rkB x y (bx bs i) (bx bs n) = 1) : kbN x y bs i (n + 1) = kbN x y bs i n ++ [(n : Int)] := if_pos ⟨h, g⟩
theorem kb_self {x y : Int} {bs : List B6} {i : Nat} : kbN x y bs i (i + 1) = kbN x y bs i i := if_neg (fun h => h.1 rfl)
theorem kb_no {x y : Int} {bs : List B6} {i n : Nat} (g : rkB x y (bx bs i) (bx bs n) ≠ 1) : kbN x y bs i (n + 1) = kbN x y bs i n := if_neg (fun h => g h.2)
theorem kb_len (x y : Int) (bs : List B6) (i : Nat) : ∀ n, (kbN x y bs i n).length ≤ n
  | 0 => Nat.le_refl _
  | n + 1 => by
    have := kb_len x y bs i n
    unfold kbN
    split
    · simp; omega
    · omega
theorem kb_mem {x y : Int} {bs : List B6} {i : Nat} : ∀ n k : Nat, ((k : Int) ∈ kbN x y bs i n ↔ k < n ∧ k ≠ i ∧ rkB x y (bx bs i) (bx bs k) = 1)
  | 0, k => by simp [kbN]
  | n + 1, k => by
    have ih := kb_mem (x := x) (y := y) (bs := bs) (i := i) n k
    unfold kbN
    split
    · rename_i h
      rw [List.mem_append, ih]
      constructor
      · rintro (⟨a, b⟩ | h2)
        · exact ⟨by omega, b⟩
        · have : k = n := by have h3 : (k : Int) = (n : Int) := by simpa using h2
                             omega
          subst this
          exact ⟨by omega, h⟩
      · rintro ⟨a, b⟩
        by_cases e : k = n
        · exact .inr (by simp [e])
        · exact .inl ⟨by omega, b⟩
    · rename_i h
      rw [ih]
      constructor
      · rintro ⟨a, b⟩; exact ⟨by omega, b⟩
      · rintro ⟨a, b⟩
        refine ⟨?_, b⟩
        rcases Nat.lt_or_ge k n with l | l
        · exact l
        · obtain rfl : k = n := by omega
          exact absurd b h
/-- The first n rows. -/
def ktN (x y : Int) (bs : List B6) : Nat → List (List Int)
  | 0 => []
  | n + 1 => ktN x y bs n ++ [kbN x y bs n bs.length]
theorem kt_len (x y : Int) (bs : List B6) : ∀ n, (ktN x y bs n).length = n
  | 0 => rfl
  | n + 1 => by unfold ktN; rw [List.length_append, kt_len x y bs n]; rfl
theorem kt_at {x y : Int} {bs : List B6} : ∀ (n i : Nat), i < n → rz (ktN x y bs n) i = kbN x y bs i bs.length
  | 0, i, h => absurd h (by omega)
  | n + 1, i, h => by
    unfold ktN
    rw [rz_snoc, kt_len]
    by_cases g : i < n
    · rw [if_pos g]; exact kt_at n i g
    · obtain rfl : i = n := by omega
      rw [if_neg g, if_pos rfl]
/-- The answers of KeepClearTable. -/
def kcC (x y : Int) (bs : List B6) : Int := if 16 < bs.length then 3 else if wdB x y = true ∧ btB bs = true then 0 else 1
def kcT (x y : Int) (bs : List B6) : List (List Int) := if kcC x y bs = 0 then ktN x y bs bs.length else []
theorem kc_many {x y : Int} {bs : List B6} (h : 16 < bs.length) : kcC x y bs = 3 ∧ kcT x y bs = [] := by
  have e : kcC x y bs = 3 := if_pos h
  exact ⟨e, by unfold kcT; rw [e]; rfl⟩
theorem kc_bad {x y : Int} {bs : List B6} (h : ¬ 16 < bs.length) (g : ¬ (wdB x y = true ∧ btB bs = true)) : kcC x y bs = 1 ∧ kcT x y bs = [] := by
  have e : kcC x y bs = 1 := (if_neg h).trans (if_neg g)
  exact ⟨e, by unfold kcT; rw [e]; rfl⟩
theorem kc_yes {x y : Int} {bs : List B6} (h : ¬ 16 < bs.length) (g : wdB x y = true ∧ btB bs = true) : kcC x y bs = 0 ∧ kcT x y bs = ktN x y bs bs.length := by
  have e : kcC x y bs = 0 := (if_neg h).trans (if_pos g)
  exact ⟨e, by unfold kcT; rw [if_pos e]⟩
theorem kcT_sm (x y : Int) (bs : List B6) : Sm 16 (kcT x y bs) := by
  unfold kcT
  split
  · rename_i h
    have h16 : ¬ 16 < bs.length := fun g => by rw [(kc_many g).1] at h; cases h
    refine ⟨by rw [kt_len]; omega, fun i hi => ?_⟩
    rw [kt_len] at hi
    rw [kt_at _ _ hi]
    have := kb_len x y bs i bs.length
    omega
  · exact ⟨by simp, fun i hi => absurd hi (by simp)⟩

theorem lit1 {w : World} {u : Value} {t : TypeId} {n : Nat} (hn : w.heap.size = n) : ∀ (j : Nat) (x : Value), ([u] : List Value)[j]? = some x → (w.alloc (.cells #[u] t)).cell? ((⟨n, 0, none⟩ : Addr).add j) = some x := by
  intro j x hx
  rw [show (⟨n, 0, none⟩ : Addr).add j = ⟨n, j, none⟩ by simp [Addr.add]; omega]
  exact boxed j (by simpa using hx) hn
theorem oneI (k : Int) : ∀ u ∈ ([.int .i64 k] : List Value), u.oneCell' = true := fun u hu => by simp at hu; subst hu; rfl
theorem oneS (a : Option Addr) (n c : Nat) : ∀ u ∈ ([.slice a n c] : List Value), u.oneCell' = true := fun u hu => by simp at hu; subst hu; rfl
theorem intInfo : (Try.prog.info? 2).map (fun i => (i.zero, i.size, i.bytes)) = some (some (.int .i64 0), 1, 8) := by kernel_rfl
theorem fieldK (k r : Int) (w : World) : (Instr.field 34 (Pt k r) 0).run Try.prog w = .ok (.int .i64 k) w := by kernel_rfl

def RelKb (W : World) (base : Nat) (x y : Int) (bs : List B6) (b : Nat) (o i : Value) (wr : World) : Prop := ∃ k : Nat, i = .int .i64 k ∧ k ≤ bs.length ∧ OwnZ wr base o (kbN x y bs b k) ∧ Ext W wr

set_option maxRecDepth 100000 in
set_option maxHeartbeats 8000000 in
theorem keptBy_any (x y : Int) (b : Nat) (a : Option Addr) (cap : Nat) (bs : List B6) (w : World) (hf : Bts w a bs) (hw : wdB x y = true) (hv : btB bs = true) (hb : b < bs.length) (h16 : bs.length ≤ 16) :
    Calls Try.prog 54 #[Pt x y, .int .i64 b, .slice a bs.length cap] w fun e w' => ∃ v, e = .returned v ∧ OwnZ w' w.heap.size v (kbN x y bs b bs.length) ∧ Ext w w' := by
  obtain ⟨bb, off, rfl, hrow⟩ := hf.row (by omega)
  have HR := Lib.hid hrow
  have HP := Lib.hid (fun k (hk : k < bs.length) w => rulingOn_any x y (bx bs b).a (bx bs b).b (bx bs b).c (bx bs b).d (bx bs b).n (bx bs b).s (bx bs k).a (bx bs k).b (bx bs k).c (bx bs k).d (bx bs k).n (bx bs k).s w hw (bt_yes hv hb) (bt_yes hv hk))
  have HQ := Lib.hid (fun k => show rkB x y (bx bs b) (bx bs k) = ruK x y (bx bs b).a (bx bs b).b (bx bs b).c (bx bs b).d (bx bs b).n (bx bs b).s (bx bs k).a (bx bs k).b (bx bs k).c (bx bs k).d (bx bs k).n (bx bs k).s from rfl)
  have hb0 : (0 : Int) ≤ (b : Int) := by omega
  have hb1 : (b : Int) < (bs.length : Int) := by omega
  clear hf hrow hw hv
  obtain ⟨i0, hin, hz0, hz1, hz2⟩ := info_parts intInfo
  obtain ⟨W0, hW0⟩ : ∃ W0, W0 = w.alloc (.cells #[.int .i64 x, .int .i64 y] 25) := ⟨_, rfl⟩
  have hX : Ext w W0 := hW0 ▸ ((Ext.refl w).alloc _)
  have hs0 : W0.heap.size = w.heap.size + 1 := by rw [hW0]; simp
  have e00 : ∀ w', (Ext W0) w' → w'.cell? ⟨w.heap.size, 0, none⟩ = some (.int .i64 x) := fun w' h => h.cellOf (by rw [hW0]; exact boxed 0 rfl (by simp))
  have e01 : ∀ w', (Ext W0) w' → w'.cell? ⟨w.heap.size, 1, none⟩ = some (.int .i64 y) := fun w' h => h.cellOf (by rw [hW0]; exact boxed 1 rfl (by simp))
  have sW := Ext.size hX
  go_enter Try.func54, Try.ntmps54
  go_wp2
  rw [← hW0]
  clear hW0
  go_loopw [7, 11] (fun o i wr => RelKb W0 W0.heap.size x y bs b o i wr) (fun o i _ => bs.length - (intOf i).toNat)
  case atStart => exact ⟨0, rfl, Nat.zero_le _, OwnZ.nil _ _, Ext.refl _⟩
  case round =>
    obtain ⟨k, rfl, hk, hO, hx⟩ := hrel
    have HO := Lib.hid hO
    have HX := Lib.hid hx
    clear hO hx
    have j0 : (0 : Int) ≤ (k : Int) := by omega
    have T7 : IntKind.i64.wrap ((k : Int) + 1) = (k : Int) + 1 := IntWalk.i64_in _ (by omega)
    by_cases hk1 : k < bs.length
    · have j1 : (k : Int) < (bs.length : Int) := by omega
      have p0 := ((HR.out b hb).ext hX).ext HX.out
      have q0 := ((HR.out k hk1).ext hX).ext HX.out
      have PR := Lib.hid (HP.out k hk1)
      have HE := Lib.hid (HQ.out k)
      have HY := Lib.hid (fun h g => kb_yes (x := x) (y := y) (bs := bs) (i := b) (n := k) h g)
      have HN := Lib.hid (fun g => kb_no (x := x) (y := y) (bs := bs) (i := b) (n := k) g)
      have LN := Lib.hid (kb_len x y bs b k)
      have g0 : ∀ w', Ext wr w' → w'.cell? ⟨w.heap.size, 0, none⟩ = some (.int .i64 x) := fun w' h => e00 w' (HX.out.trans h)
      have g1 : ∀ w', Ext wr w' → w'.cell? ⟨w.heap.size, 1, none⟩ = some (.int .i64 y) := fun w' h => e01 w' (HX.out.trans h)
      have hr := Ext.refl wr
      by_cases hkb : k = b
      · subst hkb
        have HS := Lib.hid (kb_self (x := x) (y := y) (bs := bs) (i := k))
        clear PR HE HY HN LN p0 q0
        go_wp2_with fail
        refine wp_region_held_drew (S := (fun w' => Ext wr w')) (by kernel_rfl) (by (try dsimp only); first | go_keep | exact (Ext.refl _).drew | exact Res.new2.drew | exact Res.new4.drew | exact ResB.drew (by assumption) | exact ResC.drew (by assumption) | assumption | exact Ext.drew (by assumption) | exact Res.drew (by assumption)) (fun hHeld => ?_)
        refine Ord.K 0 14 ?_
        refine Ord.K 1 15 ?_
        refine Ord.K 2 16 ?_
        refine Ord.K 3 17 ?_
        (first | (refine Ord.s 4 18 ?_ ?_; rfl; (try simp only [Act.put, Ord.a, Ord.b, Ord.c])) | refine Ord.K 4 18 ?_)
        (first | (refine Ord.s 5 19 ?_ ?_; rfl; (try simp only [Act.put, Ord.a, Ord.b, Ord.c])) | refine Ord.K 5 19 ?_)
        (first | (refine Ord.s 6 20 ?_ ?_; rfl; (try simp only [Act.put, Ord.a, Ord.b, Ord.c])) | refine Ord.K 6 20 ?_)
        (first | (refine Ord.s 7 21 ?_ ?_; rfl; (try simp only [Act.put, Ord.a, Ord.b, Ord.c])) | refine Ord.K 7 21 ?_)
        (first | (refine Ord.s 8 22 ?_ ?_; rfl; (try simp only [Act.put, Ord.a, Ord.b, Ord.c])) | refine Ord.K 8 22 ?_)
        (first | (refine Ord.s 9 23 ?_ ?_; rfl; (try simp only [Act.put, Ord.a, Ord.b, Ord.c])) | refine Ord.K 9 23 ?_)
        (first | (refine Ord.s 10 24 ?_ ?_; rfl; (try simp only [Act.put, Ord.a, Ord.b, Ord.c])) | refine Ord.K 10 24 ?_)
        (first | (refine Ord.s 11 25 ?_ ?_; rfl; (try simp only [Act.put, Ord.a, Ord.b, Ord.c])) | refine Ord.K 11 25 ?_)
        (first | (refine Ord.s 12 26 ?_ ?_; rfl; (try simp only [Act.put, Ord.a, Ord.b, Ord.c])) | refine Ord.K 12 26 ?_)
        (first | (refine Ord.s 13 27 ?_ ?_; rfl; (try simp only [Act.put, Ord.a, Ord.b, Ord.c])) | (refine wpAnyH_ready (rs := [13]) (by kernel_rfl) (by simp) ?_; refine AllReadyH.cons rfl (fun K hK => ?_) AllReadyH.nil; go_simp; (fail); go_wp2_with fail; (refine hK.out _ _ (by first | assumption | exact Ext.trans (by assumption) hy | exact Res.ext (by assumption) hy | exact ResB.ext (by assumption) hy | exact ResC.ext (by assumption) hy | (go_split_ands; (repeat' apply And.intro) <;> exact Ext.cellOf hy (by assumption))) (fun hHeld => ?_)); clear hK K; (try simp only [Act.put, Ord.a, Ord.b, Ord.c])))
        (first | (refine Ord.s 14 28 ?_ ?_; rfl; (try simp only [Act.put, Ord.a, Ord.b, Ord.c])) | refine Ord.K 14 28 ?_)
        (first | (refine Ord.s 15 29 ?_ ?_; rfl; (try simp only [Act.put, Ord.a, Ord.b, Ord.c])) | refine Ord.K 15 29 ?_)
        refine Ord.K 16 30 ?_
        refine wpAnyH_done (by kernel_rfl) ?_ _
        have HY2 := Lib.hid (show Ext wr wr.drew from (Ext.refl wr).drew)
        go_wp2
        go_roundw
        case rel => exact ⟨k + 1, by go_num, by omega, by rw [HS.out]; exact OwnZ.ext HO.out HY2.out, HX.out.trans HY2.out⟩
        case measure => simp [intOf]; omega
      · have hne : ((k : Int) != (b : Int)) = true := by simp; omega
        have hkb2 : ¬ ((k : Int) = (b : Int)) := by omega
        have f0 : ∀ w', Ext wr w' → w'.cell? ⟨bb, off + b * 6, none⟩ = some (.int .i64 (bx bs b).a) := fun w' h => (p0.ext h).six.1
        have f1 : ∀ w', Ext wr w' → w'.cell? ⟨bb, off + b * 6 + 1, none⟩ = some (.int .i64 (bx bs b).b) := fun w' h => (p0.ext h).six.2.1
        have f2 : ∀ w', Ext wr w' → w'.cell? ⟨bb, off + b * 6 + 2, none⟩ = some (.int .i64 (bx bs b).c) := fun w' h => (p0.ext h).six.2.2.1
        have f3 : ∀ w', Ext wr w' → w'.cell? ⟨bb, off + b * 6 + 3, none⟩ = some (.int .i64 (bx bs b).d) := fun w' h => (p0.ext h).six.2.2.2.1
        have f4 : ∀ w', Ext wr w' → w'.cell? ⟨bb, off + b * 6 + 4, none⟩ = some (.int .i64 (bx bs b).n) := fun w' h => (p0.ext h).six.2.2.2.2.1
        have f5 : ∀ w', Ext wr w' → w'.cell? ⟨bb, off + b * 6 + 5, none⟩ = some (.bool (bx bs b).s) := fun w' h => (p0.ext h).six.2.2.2.2.2
        have h0 : ∀ w', Ext wr w' → w'.cell? ⟨bb, off + k * 6, none⟩ = some (.int .i64 (bx bs k).a) := fun w' h => (q0.ext h).six.1
        have h1 : ∀ w', Ext wr w' → w'.cell? ⟨bb, off + k * 6 + 1, none⟩ = some (.int .i64 (bx bs k).b) := fun w' h => (q0.ext h).six.2.1
        have h2 : ∀ w', Ext wr w' → w'.cell? ⟨bb, off + k * 6 + 2, none⟩ = some (.int .i64 (bx bs k).c) := fun w' h => (q0.ext h).six.2.2.1
        have h3 : ∀ w', Ext wr w' → w'.cell? ⟨bb, off + k * 6 + 3, none⟩ = some (.int .i64 (bx bs k).d) := fun w' h => (q0.ext h).six.2.2.2.1
        have h4 : ∀ w', Ext wr w' → w'.cell? ⟨bb, off + k * 6 + 4, none⟩ = some (.int .i64 (bx bs k).n) := fun w' h => (q0.ext h).six.2.2.2.2.1
        have h5 : ∀ w', Ext wr w' → w'.cell? ⟨bb, off + k * 6 + 5, none⟩ = some (.bool (bx bs k).s) := fun w' h => (q0.ext h).six.2.2.2.2.2
        obtain ⟨K, hK⟩ : ∃ K, K = rkB x y (bx bs b) (bx bs k) := ⟨_, rfl⟩
        rw [← HE.out, ← hK] at PR
        rw [← hK] at HY HN
        generalize ruR x y (bx bs b).a (bx bs b).b (bx bs b).c (bx bs b).d (bx bs b).n (bx bs b).s (bx bs k).a (bx bs k).b (bx bs k).c (bx bs k).d (bx bs k).n (bx bs k).s = Q at PR
        have hF := fun w => fieldK K Q w
        obtain ⟨zs, hzs⟩ : ∃ zs, zs = kbN x y bs b k := ⟨_, rfl⟩
        rw [← hzs] at HO HY HN LN
        clear p0 q0 HE hK hzs
        generalize bx bs b = P at *
        generalize bx bs k = R at *
        go_wp2_with fail
        refine wp_region_held_drew (S := (fun w' => Ext wr w')) (by kernel_rfl) (by (try dsimp only); first | go_keep | exact (Ext.refl _).drew | exact Res.new2.drew | exact Res.new4.drew | exact ResB.drew (by assumption) | exact ResC.drew (by assumption) | assumption | exact Ext.drew (by assumption) | exact Res.drew (by assumption)) (fun hHeld => ?_)
        refine Ord.K 0 14 ?_
        refine Ord.K 1 15 ?_
        refine Ord.K 2 16 ?_
        refine Ord.K 3 17 ?_
        (first | (refine Ord.s 4 18 ?_ ?_; rfl; (try simp only [Act.put, Ord.a, Ord.b, Ord.c])) | refine Ord.K 4 18 ?_)
        (first | (refine Ord.s 5 19 ?_ ?_; rfl; (try simp only [Act.put, Ord.a, Ord.b, Ord.c])) | refine Ord.K 5 19 ?_)
        (first | (refine Ord.s 6 20 ?_ ?_; rfl; (try simp only [Act.put, Ord.a, Ord.b, Ord.c])) | refine Ord.K 6 20 ?_)
        (first | (refine Ord.s 7 21 ?_ ?_; rfl; (try simp only [Act.put, Ord.a, Ord.b, Ord.c])) | refine Ord.K 7 21 ?_)
        (first | (refine Ord.s 8 22 ?_ ?_; rfl; (try simp only [Act.put, Ord.a, Ord.b, Ord.c])) | refine Ord.K 8 22 ?_)
        (first | (refine Ord.s 9 23 ?_ ?_; rfl; (try simp only [Act.put, Ord.a, Ord.b, Ord.c])) | refine Ord.K 9 23 ?_)
        (first | (refine Ord.s 10 24 ?_ ?_; rfl; (try simp only [Act.put, Ord.a, Ord.b, Ord.c])) | refine Ord.K 10 24 ?_)
        (first | (refine Ord.s 11 25 ?_ ?_; rfl; (try simp only [Act.put, Ord.a, Ord.b, Ord.c])) | refine Ord.K 11 25 ?_)
        (first | (refine Ord.s 12 26 ?_ ?_; rfl; (try simp only [Act.put, Ord.a, Ord.b, Ord.c])) | refine Ord.K 12 26 ?_)
        (first | (refine Ord.s 13 27 ?_ ?_; rfl; (try simp only [Act.put, Ord.a, Ord.b, Ord.c])) | (refine wpAnyH_ready (rs := [13]) (by kernel_rfl) (by simp) ?_; refine AllReadyH.cons rfl (fun K hK => ?_) AllReadyH.nil; go_simp; (go_at_call 58; refine (PR.out _).mono ?_; rintro e w5 ⟨rfl, hy⟩); go_wp2_with fail; (refine hK.out _ _ (by first | assumption | exact Ext.trans (by assumption) hy | exact Res.ext (by assumption) hy | exact ResB.ext (by assumption) hy | exact ResC.ext (by assumption) hy | (go_split_ands; (repeat' apply And.intro) <;> exact Ext.cellOf hy (by assumption))) (fun hHeld => ?_)); clear hK K; (try simp only [Act.put, Ord.a, Ord.b, Ord.c])))
        (first | (refine Ord.s 14 28 ?_ ?_; rfl; (try simp only [Act.put, Ord.a, Ord.b, Ord.c])) | refine Ord.K 14 28 ?_)
        (first | (refine Ord.s 15 29 ?_ ?_; rfl; (try simp only [Act.put, Ord.a, Ord.b, Ord.c])) | refine Ord.K 15 29 ?_)
        refine Ord.K 16 30 ?_
        refine wpAnyH_done (by kernel_rfl) ?_ _
        have hz : Ext wr w5 := hHeld
        clear f0 f1 f2 f3 f4 f5 h0 h1 h2 h3 h4 h5 g0 g1 hF hr hHeld hy
        by_cases hK1 : K = 1
        · have hKb : (K == 1) = true := beq_iff_eq.2 hK1
          have EQ := Lib.hid (HY.out hkb hK1)
          have OA := row_ext (row_ext HO.out hz) ((Ext.refl w5).alloc (.cells #[.int .i64 (k : Int)] 2))
          have XA := Lib.hid ((HX.out.trans hz).alloc (.cells #[.int .i64 (k : Int)] 2))
          have CC := Lib.hid (lit1 (w := w5) (n := w5.heap.size) (u := .int .i64 (k : Int)) (t := 2) rfl)
          have P1 := Lib.hid (oneI (k : Int))
          have P3 := Lib.hid (show zs.length + 1 ≤ maxLen by unfold maxLen; have := LN.out; omega)
          have P4 := Lib.hid (show (zs.length + 1) * 8 ≤ 140737488355328 by have := LN.out; omega)
          have zA := Lib.hid (Ext.size XA.out)
          have E5 := Lib.hid (show cellsZ (zs ++ [(k : Int)]) = cellsZ zs ++ [.int .i64 (k : Int)] by simp [cellsZ])
          have L5 := Lib.hid (show (zs ++ [(k : Int)]).length = zs.length + 1 by simp)
          clear hK1 hz
          go_wp2_with (at_builtin; refine wpList_append_own _ rfl _ _ 43 rfl W0.heap.size 2 i0 (.int .i64 0) 1 8 Try.underlying43 hin hz0 hz1 hz2 rfl (by decide) _ zs.length _ rfl OA ⟨w5.heap.size, 0, none⟩ 1 1 [.int .i64 (k : Int)] rfl rfl CC.out P1.out P3.out P4.out zA.out ?_; intro v1 w6 hown hgrow hnil; have O5 := Lib.hid (show OwnZ w6 W0.heap.size v1 (zs ++ [(k : Int)]) by unfold OwnZ; rw [L5.out, E5.out]; exact hown); have X5 := Lib.hid (row_grown (w0 := W0) OA hgrow (Nat.le_refl _) XA.out); clear hown hgrow hnil OA)
          go_roundw
          case rel => exact ⟨k + 1, by go_num, by omega, by rw [EQ.out]; exact O5.out, X5.out⟩
          case measure => simp [intOf]; omega
        · have hKb : (K == 1) = false := beq_eq_false_iff_ne.2 hK1
          have EQ := Lib.hid (HN.out hK1)
          have HZ := Lib.hid hz
          clear hK1 hz
          go_wp2
          go_roundw
          case rel => exact ⟨k + 1, by go_num, by omega, by rw [EQ.out]; exact OwnZ.ext HO.out HZ.out, HX.out.trans HZ.out⟩
          case measure => simp [intOf]; omega
    · obtain rfl : k = bs.length := by omega
      go_wp2
      go_ret
      exact ⟨_, rfl, OwnZ.mono HO.out sW, hX.trans HX.out⟩

end Go.Proofs.Ytcangdcakgcpaaa.Kct
