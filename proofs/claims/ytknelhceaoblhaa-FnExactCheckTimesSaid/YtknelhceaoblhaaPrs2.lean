/- The pairs of boats (chapter 12): watchedPair. -/
import Derived.Test.YtknelhceaoblhaaPrs
import Derived.Deep.DeepCutAuto
namespace Go.Proofs.Ytknelhceaoblhaa.Prs
open Go.ChangeShapes Go.WideShapes Go.ChangeAt Go.RowKit Go.PlainAid
open Go.Proofs.Ytknelhceaoblhaa.Num Go.Proofs.Ytknelhceaoblhaa.Kit Go.Proofs.Ytknelhceaoblhaa.Pts Go.Proofs.Ytknelhceaoblhaa.Wch
open Go.Proofs.Ytknelhceaoblhaa.Trk (F3 Fxs Tr fx trB)
open Go.Proofs.Ytknelhceaoblhaa.Crs (T1 TV tk Tks tsB tkB areValid_any)
open Go.Proofs.Ytknelhceaoblhaa.Mnv (row_ext row_mono row_grown)
set_option linter.unusedVariables false
set_option linter.unusedSimpArgs false

theorem Box.eightc {w : World} {n : Nat} {x y z u r s t v : Value} (h : Box w n [x, y, z, u, r, s, t, v]) : (w.cell? ⟨n, 0, none⟩ = some x ∧ w.cell? ⟨n, 1, none⟩ = some y ∧ w.cell? ⟨n, 2, none⟩ = some z ∧ w.cell? ⟨n, 3, none⟩ = some u ∧ w.cell? ⟨n, 4, none⟩ = some r ∧ w.cell? ⟨n, 5, none⟩ = some s ∧ w.cell? ⟨n, 6, none⟩ = some t ∧ w.cell? ⟨n, 7, none⟩ = some v) ∧
    w.frozen? ⟨n, 0, none⟩ = false ∧ w.frozen? ⟨n, 1, none⟩ = false ∧ w.frozen? ⟨n, 2, none⟩ = false ∧ w.frozen? ⟨n, 3, none⟩ = false ∧ w.frozen? ⟨n, 4, none⟩ = false ∧ w.frozen? ⟨n, 5, none⟩ = false ∧ w.frozen? ⟨n, 6, none⟩ = false ∧ w.frozen? ⟨n, 7, none⟩ = false :=
  ⟨⟨(h 0 x rfl).1, (h 1 y rfl).1, (h 2 z rfl).1, (h 3 u rfl).1, (h 4 r rfl).1, (h 5 s rfl).1, (h 6 t rfl).1, (h 7 v rfl).1⟩, (h 0 x rfl).2, (h 1 y rfl).2, (h 2 z rfl).2, (h 3 u rfl).2, (h 4 r rfl).2, (h 5 s rfl).2, (h 6 t rfl).2, (h 7 v rfl).2⟩
abbrev LP (l s d p i k : Int) (t u : T1) : List Value := [.int .i64 l, .int .i64 s, .int .i64 d, .int .i64 p, .int .i64 i, .int .i64 k, TV t, TV u]
theorem Box.put8 {w : World} {n : Nat} {x y z u r s t v a b c d e f g h : Value} (B : Box w n [x, y, z, u, r, s, t, v]) :
    Box ((((((((w.setCell ⟨n, 0, none⟩ a).setCell ⟨n, 1, none⟩ b).setCell ⟨n, 2, none⟩ c).setCell ⟨n, 3, none⟩ d).setCell ⟨n, 4, none⟩ e).setCell ⟨n, 5, none⟩ f).setCell ⟨n, 6, none⟩ g).setCell ⟨n, 7, none⟩ h) n [a, b, c, d, e, f, g, h] :=
  (((((((B.set 0 (by simp) a).set 1 (by simp) b).set 2 (by simp) c).set 3 (by simp) d).set 4 (by simp) e).set 5 (by simp) f).set 6 (by simp) g).set 7 (by simp) h
theorem Ext.put8 {a w : World} (h : Ext a w) {n : Nat} (hn : a.heap.size ≤ n) (c0 c1 c2 c3 c4 c5 c6 c7 : Value) :
    Ext a ((((((((w.setCell ⟨n, 0, none⟩ c0).setCell ⟨n, 1, none⟩ c1).setCell ⟨n, 2, none⟩ c2).setCell ⟨n, 3, none⟩ c3).setCell ⟨n, 4, none⟩ c4).setCell ⟨n, 5, none⟩ c5).setCell ⟨n, 6, none⟩ c6).setCell ⟨n, 7, none⟩ c7) :=
  (((((((h.setNew hn _).setNew hn _).setNew hn _).setNew hn _).setNew hn _).setNew hn _).setNew hn _).setNew hn _
theorem wp_done {Q : Ending → World → Prop} {n : Nat} {F : World} {tmps : Array Value} {l s d p i k c : Int} {t u : T1} (B : Box F n (LP l s d p i k t u)) (h6 : tmps[6]? = some (.pointer (some ⟨n, 0, none⟩))) (h7 : tmps[7]? = some (.int .i64 c)) (hQ : Q (.returned (.tuple #[Pv l s d p i k t u, .int .i64 c])) F) :
    bodyPost Try.prog Try.f30 Q Exit.ret ⟨tmps, []⟩ F := by
  obtain ⟨⟨g0, g1, g2, g3, g4, g5, g6, g7⟩, _⟩ := Box.eightc B
  exact bodyPost_ret (v := .tuple #[Pv l s d p i k t u, .int .i64 c]) (by simp [results, Try.results30, go_sem, h6, h7, g0, g1, g2, g3, g4, g5, g6, g7]) rfl hQ
/-- The watch and both tracks are valid. -/
def wpB (l s d p : Int) (t u : T1) : Bool := wtB l s d p && (trB t.fs && trB u.fs)
theorem ts_two (t u : T1) : tsB [t, u] = (trB t.fs && trB u.fs) := by simp [tsB, List.range_succ, tkB, tk]
theorem tks_two {w : World} {b : Nat} {t u : T1} (h : w.cell? ⟨b, 0, none⟩ = some (TV t)) (h1 : w.cell? ⟨b, 1, none⟩ = some (TV u)) (hf : Fxs w t.a t.fs) (hg : Fxs w u.a u.fs) : Tks w (some ⟨b, 0, none⟩) [t, u] := by
  refine ⟨by unfold maxLen; simp, fun i hi => ?_, .inr ⟨b, 0, rfl, fun i hi => ?_⟩⟩
  all_goals
    rcases (show i = 0 ∨ i = 1 by simp at hi; omega) with rfl | rfl
    · assumption
    · assumption

set_option maxRecDepth 100000 in
set_option maxHeartbeats 4000000 in
theorem watchedPair_any (l s d p : Int) (t u : T1) (w : World) (hf : Fxs w t.a t.fs) (hg : Fxs w u.a u.fs) :
    Calls Try.prog 30 #[Wt l s d p, Tr (TV t), Tr (TV u)] w fun e w' => ((wpB l s d p t u = true ∧ e = .returned (.tuple #[Pv l s d p 0 1 t u, .int .i64 0])) ∨ (wpB l s d p t u = false ∧ e = .returned (.tuple #[Pv 0 0 0 0 0 0 zT zT, .int .i64 1]))) ∧ Ext w w' := by
  obtain ⟨W0, hW0⟩ : ∃ W0, W0 = (((w.alloc (.cells #[.int .i64 l, .int .i64 s, .int .i64 d, .int .i64 p] 25)).alloc (.cells #[TV t] 37)).alloc (.cells #[TV u] 37)).alloc (.cells #[.int .i64 0, .int .i64 0, .int .i64 0, .int .i64 0, .int .i64 0, .int .i64 0, .slice none 0 0, .slice none 0 0] 60) := ⟨_, rfl⟩
  have hX : Ext w W0 := hW0 ▸ ((((Ext.refl w).alloc _).alloc _).alloc _).alloc _
  have HB := Lib.hid (show Box W0 w.heap.size [.int .i64 l, .int .i64 s, .int .i64 d, .int .i64 p] from hW0 ▸ ((Box.new4 rfl).alloc _ |>.alloc _).alloc _)
  have HR := Lib.hid (show Box W0 (w.heap.size + 1 + 1 + 1) (LP 0 0 0 0 0 0 zT zT) by rw [hW0]; exact Box.new (vs := LP 0 0 0 0 0 0 zT zT) (by simp))
  obtain ⟨W1, hW1⟩ : ∃ W1, W1 = W0.alloc (.cells #[TV t, TV u] 37) := ⟨_, rfl⟩
  have x1 : Ext W0 W1 := hW1 ▸ (Ext.refl W0).alloc _
  have HX := Lib.hid (hX.trans x1)
  have hsz : W0.heap.size = w.heap.size + 1 + 1 + 1 + 1 := by rw [hW0]; simp
  have HT := Lib.hid (show Tks W1 (some ⟨w.heap.size + 1 + 1 + 1 + 1, 0, none⟩) [t, u] from tks_two (by rw [hW1]; exact boxed 0 rfl hsz) (by rw [hW1]; exact boxed 1 rfl hsz) (hf.ext HX.out) (hg.ext HX.out))
  replace HB := Lib.hid (HB.out.ext x1)
  replace HR := Lib.hid (HR.out.ext x1)
  have KV := Lib.hid (fun w => watchValid_any l s d p w)
  have KA := Lib.hid (fun (v : World) (h : Tks v (some ⟨w.heap.size + 1 + 1 + 1 + 1, 0, none⟩) [t, u]) => show Calls Try.prog 41 #[.slice (some ⟨w.heap.size + 1 + 1 + 1 + 1, 0, none⟩) 2 2] v (fun e w' => e = .returned (.bool (tsB [t, u])) ∧ Ext v w') from areValid_any (some ⟨w.heap.size + 1 + 1 + 1 + 1, 0, none⟩) 2 [t, u] v h)
  have KP := Lib.hid (fun (v : World) (h : Tks v (some ⟨w.heap.size + 1 + 1 + 1 + 1, 0, none⟩) [t, u]) => show Calls Try.prog 42 #[Wt l s d p, .slice (some ⟨w.heap.size + 1 + 1 + 1 + 1, 0, none⟩) 2 2] v (fun e w' => ∃ x, e = .returned x ∧ OwnP w' v.heap.size x l s d p [t, u] (prA 2) ∧ Ext v w') from pairsOf_any l s d p (some ⟨w.heap.size + 1 + 1 + 1 + 1, 0, none⟩) 2 [t, u] v h (by simp) (by simp))
  have HV := Lib.hid (show wpB l s d p t u = (wtB l s d p && tsB [t, u]) by unfold wpB; rw [ts_two])
  generalize tsB [t, u] = R at *
  clear hf hg x1 hsz
  obtain ⟨⟨e0, e1, e2, e3⟩, _⟩ := HB.out.four
  go_enter Try.func30, Try.ntmps30
  go_upto_region 2 with fail
  rw [← hW0, ← hW1]
  clear hW0 hW1
  go_wp2_with fail
  refine (KV.out _).mono ?_
  rintro e w2 ⟨rfl, hy⟩
  replace HB := Lib.hid (HB.out.ext hy); replace HR := Lib.hid (HR.out.ext hy); replace HT := Lib.hid (HT.out.ext hy); replace HX := Lib.hid (HX.out.trans hy)
  clear hy e0 e1 e2 e3
  cases h1 : wtB l s d p
  · have H := Lib.hid (show wpB l s d p t u = false by rw [HV.out, h1]; rfl)
    obtain ⟨⟨r0, r1, r2, r3, r4, r5, r6, r7⟩, s0, s1, s2, s3, s4, s5, s6, s7⟩ := Box.eightc HR.out
    go_wp2
    exact wp_done (l := 0) (s := 0) (d := 0) (p := 0) (i := 0) (k := 0) (c := 1) (t := zT) (u := zT) (n := w.heap.size + 1 + 1 + 1) (Box.put8 HR.out) rfl rfl ⟨.inr ⟨H.out, rfl⟩, Ext.put8 HX.out (by omega) _ _ _ _ _ _ _ _⟩
  go_wp2_with fail
  refine (KA.out _ HT.out).mono ?_
  rintro e w3 ⟨rfl, hy⟩
  replace HB := Lib.hid (HB.out.ext hy); replace HR := Lib.hid (HR.out.ext hy); replace HT := Lib.hid (HT.out.ext hy); replace HX := Lib.hid (HX.out.trans hy)
  clear hy
  cases R
  · have H := Lib.hid (show wpB l s d p t u = false by rw [HV.out, h1]; rfl)
    obtain ⟨⟨r0, r1, r2, r3, r4, r5, r6, r7⟩, s0, s1, s2, s3, s4, s5, s6, s7⟩ := Box.eightc HR.out
    go_wp2
    exact wp_done (l := 0) (s := 0) (d := 0) (p := 0) (i := 0) (k := 0) (c := 1) (t := zT) (u := zT) (n := w.heap.size + 1 + 1 + 1) (Box.put8 HR.out) rfl rfl ⟨.inr ⟨H.out, rfl⟩, Ext.put8 HX.out (by omega) _ _ _ _ _ _ _ _⟩
  · have H := Lib.hid (show wpB l s d p t u = true by rw [HV.out, h1]; rfl)
    obtain ⟨⟨e0, e1, e2, e3⟩, _⟩ := HB.out.four
    go_wp2_with fail
    refine (KP.out _ HT.out).mono ?_
    rintro e w4 ⟨v, rfl, hO, hy⟩
    replace HR := Lib.hid (HR.out.ext hy); replace HX := Lib.hid (HX.out.trans hy)
    clear hy e0 e1 e2 e3
    obtain ⟨g, cp, rfl, _, hq⟩ := hO.row (by decide)
    have q := hq 0 (0, 1) rfl
    have q0 := q 0 _ rfl
    have q1 := q 1 _ rfl
    have q2 := q 2 _ rfl
    have q3 := q 3 _ rfl
    have q4 := q 4 _ rfl
    have q5 := q 5 _ rfl
    have q6 := q 6 _ rfl
    have q7 := q 7 _ rfl
    simp only [Nat.zero_mul, Nat.zero_add] at q0 q1 q2 q3 q4 q5 q6 q7
    rw [show tk [t, u] 0 = t from rfl] at q6
    rw [show tk [t, u] 1 = u from rfl] at q7
    rw [show (prA 2).length = 1 from rfl]
    obtain ⟨⟨r0, r1, r2, r3, r4, r5, r6, r7⟩, s0, s1, s2, s3, s4, s5, s6, s7⟩ := Box.eightc HR.out
    clear q hq hO
    go_wp2
    exact wp_done (l := l) (s := s) (d := d) (p := p) (i := 0) (k := 1) (c := 0) (t := t) (u := u) (n := w.heap.size + 1 + 1 + 1) (Box.put8 HR.out) rfl rfl ⟨.inl ⟨H.out, rfl⟩, Ext.put8 HX.out (by omega) _ _ _ _ _ _ _ _⟩

end Go.Proofs.Ytknelhceaoblhaa.Prs
