import Derived.Test.YtmlojndkpnhalaaGreatMOrdMath
import Derived.Test.YtmlojndkpnhalaaGreatMLen2
import Derived.Shelf.SlIter.Collect
import Derived.WalkKit
import Derived.RangeFuncBound
namespace Go.Proofs.YtmlojndkpnhalaaGreat.Crs
open Go.ChangeShapes Go.WideShapes Go.ChangeAt Go.RowKit
open Go.Proofs.YtmlojndkpnhalaaGreat.Num Go.Proofs.YtmlojndkpnhalaaGreat.Kit Go.Proofs.YtmlojndkpnhalaaGreat.Pts
open Go.WideElems (rg rd)
open Go.ChangeMaps (setBlock heap_setBlock_same heap_setBlock_other)
set_option linter.unusedVariables false
set_option linter.unusedSimpArgs false
def zO (l : List Nat) : List Int := l.map fun (i : Nat) => (i : Int)
noncomputable def R0 : Value → Option (DataW Unit × List MemPlace) := fun _ => some (.nil, [])
noncomputable def dO (es : Array MapEntry) : DataW Unit := .map ((es.toList.map (rg Tryz.prog 113 R0)).foldr DataW.insert [])
theorem mapT : Tryz.prog.underlying 128 = some (.map 113 38) := Tryz.underlying128
theorem mapZ (w : World) : (zeroValue 38).run Tryz.prog w = .ok (.slice none 0 0) w := Tryz.zeroValue38 w
structure GmE (w : World) (b base : Nat) (pg : Nat → Int × Int) (n : Nat) (es : Array MapEntry) (clock : Nat) : Prop where
  heap : w.heap[b]? = some (.map es clock)
  fit : Go.WideElems.Fit Tryz.prog 113 R0 es clock
  size : es.size ≤ n
  bb : b < base
  has : ∀ p, pW p → (Go.Maps.has (dO es) (pK p) = true ↔ ∃ i, i < n ∧ pg i = p)
  row : ∀ x ∈ es.toList, ∀ p, x.key = pV p → OwnZ w base x.val (zO (grO pg n p))
  apart : ∀ x ∈ es.toList, ∀ y ∈ es.toList, x.key ≠ y.key → x.val.ownBlock = none ∨ x.val.ownBlock ≠ y.val.ownBlock
def Gm (w : World) (b base : Nat) (pg : Nat → Int × Int) (n : Nat) : Prop := ∃ es clock, GmE w b base pg n es clock
theorem Gm.made (w : World) (pg : Nat → Int × Int) : Gm (w.alloc (.map #[] 0)) w.heap.size (w.heap.size + 1) pg 0 :=
  ⟨#[], 0, (MapKept.heap_alloc w _).1, ⟨by simp, MapKept.stamped_empty 0, by simp⟩, Nat.le_refl _, Nat.lt_succ_self _, fun p _ => by simp [dO, Go.Maps.has], by simp, by simp⟩
theorem GmE.lt {w : World} {b base : Nat} {pg : Nat → Int × Int} {n : Nat} {es : Array MapEntry} {clock : Nat} (h : GmE w b base pg n es clock) : b < w.heap.size := (Array.getElem?_eq_some_iff.1 h.heap).1
theorem Gm.ext {w w' : World} {b base : Nat} {pg : Nat → Int × Int} {n : Nat} (h : Gm w b base pg n) (k : Ext w w') : Gm w' b base pg n := by
  obtain ⟨es, clock, h⟩ := h
  exact ⟨es, clock, (Below.block k b h.lt).trans h.heap, h.fit, h.size, h.bb, h.has, fun x hx p hp => (h.row x hx p hp).ext k, h.apart⟩
theorem Gm.lt {w : World} {b base : Nat} {pg : Nat → Int × Int} {n : Nat} (h : Gm w b base pg n) : b < w.heap.size := by
  obtain ⟨es, clock, h⟩ := h; exact h.lt
theorem has_key {w : World} {b clock : Nat} {es : Array MapEntry} (hb : w.heap[b]? = some (.map es clock)) (F : Go.WideElems.Fit Tryz.prog 113 R0 es clock) {p : Int × Int} (hp : pW p) : Go.Maps.has (dO es) (pK p) = true ↔ ∃ x ∈ es.toList, x.key = pV p := by
  rcases Go.Maps.fit_look false pKd mapT (mapZ w) hb F (keyOf_p hp) with ⟨_, hn, hat⟩ | ⟨e0, y, hm, hk, _, _, hat, _⟩
  · have hf : Go.Maps.has (dO es) (pK p) = false := Go.Maps.has_false_of_atKey hat
    rw [hf]
    exact Iff.intro (fun h => by cases h) (fun h => by obtain ⟨x, hx, hk⟩ := h; exact absurd hk (hn x hx))
  · have hf : Go.Maps.has (dO es) (pK p) = true := Go.Maps.has_true_of_atKey hat
    rw [hf]
    exact Iff.intro (fun _ => ⟨e0, hm, hk⟩) (fun _ => rfl)
theorem OwnZ.kept {w w' : World} {base : Nat} {v : Value} {zs : List Int} {row : Option Nat} (h : OwnZ w base v zs) (hg : w.grownBy w' row) (hne : v.ownBlock = none ∨ v.ownBlock ≠ row) : OwnZ w' base v zs := World.ownsRow.kept h hg hne
theorem OwnZ.lt {w : World} {base : Nat} {v : Value} {zs : List Int} (h : OwnZ w base v zs) {g : Nat} (hg : v.ownBlock = some g) : base ≤ g ∧ g < w.heap.size := World.ownsRow.lt h g hg
theorem set_grown {w : World} {b clock : Nat} {es : Array MapEntry} (hb : w.heap[b]? = some (.map es clock)) (es' : Array MapEntry) (clock' : Nat) : w.grownBy (setBlock w b (.map es' clock')) (some b) :=
  ⟨rfl, rfl, rfl, by simp [setBlock], fun i _ hi => heap_setBlock_other hb _ (fun e1 => hi (by rw [e1]))⟩
theorem size_dO (es : Array MapEntry) : Go.Maps.size (dO es) = es.size := by
  show ((es.toList.map (rg Tryz.prog 113 R0)).foldr DataW.insert []).length = es.size
  rw [length_sorted]; simp
theorem GmE.owns {w : World} {b base : Nat} {pg : Nat → Int × Int} {n : Nat} {es : Array MapEntry} {clock : Nat} (h : GmE w b base pg n es clock) : w.ownsMap Tryz.prog 113 R0 b n (dO es) :=
  ⟨es, clock, h.heap, h.fit, h.size, rfl⟩
set_option maxHeartbeats 1000000 in
theorem Gm.entry {w : World} {b base : Nat} {pg : Nat → Int × Int} {n : Nat} (h : Gm w b base pg n) (hp : pW (pg n)) (hn : n < 1000) :
    ∃ (v0 : Value) (st : Nat) (w1 : World), (Instr.mapEntry 128 (.map (some b)) (pV (pg n))).run Tryz.prog w = .ok (.tuple #[v0, goInt st]) w1 ∧ w.grownBy w1 (some b) ∧ w1.heap.size = w.heap.size ∧ OwnZ w1 base v0 (zO (grO pg n (pg n))) ∧
      ∀ (w2 : World) (v' : Value), w1.grownBy w2 v0.ownBlock → OwnZ w2 base v' (zO (grO pg n (pg n)) ++ [(n : Int)]) → (v'.ownBlock = v0.ownBlock ∨ v'.ownBlock = some w1.heap.size) →
        ∃ w3, (Instr.entryStore 128 (.map (some b)) (goInt st) v').run Tryz.prog w2 = .ok () w3 ∧ Gm w3 b base pg (n + 1) ∧ w2.grownBy w3 (some b) := by
  obtain ⟨es, clock, h⟩ := h
  obtain ⟨v0, st, es1, clock1, hrun, hcase, hstore⟩ := Go.WideElems.entry_then_store pLaw mapT (fun u => mapZ u) h.heap h.fit (keyOf_p hp)
  have g1 := set_grown h.heap es1 clock1
  have hlt := h.lt
  have hb1 : (setBlock w b (.map es1 clock1)).heap[b]? = some (.map es1 clock1) := heap_setBlock_same h.heap _
  have hs1 : (setBlock w b (.map es1 clock1)).heap.size = w.heap.size := by simp [setBlock]
  have nb : ∀ {u : World} {v : Value} {zs : List Int}, OwnZ u base v zs → v.ownBlock = none ∨ v.ownBlock ≠ some b := fun hO => .inr (hO.block h.bb)
  have hv0 : OwnZ w base v0 (zO (grO pg n (pg n))) := by
    rcases hcase with ⟨e0, hm, hk, rfl⟩ | ⟨hno, rfl⟩
    · exact h.row e0 hm _ hk
    · have hf : ¬ Go.Maps.has (dO es) (pK (pg n)) = true := fun e => by obtain ⟨x, hx, hk⟩ := (has_key h.heap h.fit hp).1 e; exact hno x hx hk
      have : grO pg n (pg n) = [] := gr_nil.2 (fun i hi e => hf ((h.has _ hp).2 ⟨i, hi, e⟩))
      rw [this]
      exact World.ownsRow_nil _ _ _ _
  -- the others' rows lie elsewhere than v0's
  have ha0 : ∀ x ∈ es.toList, x.key ≠ pV (pg n) → x.val.ownBlock = none ∨ x.val.ownBlock ≠ v0.ownBlock := fun x hx hne => by
    rcases hcase with ⟨e0, hm, hk, rfl⟩ | ⟨_, rfl⟩
    · exact h.apart x hx e0 hm (by rw [hk]; exact hne)
    · cases hx' : x.val.ownBlock with
      | none => exact .inl rfl
      | some g => exact .inr (by simp [Value.ownBlock])
  refine ⟨v0, st, _, hrun, g1, hs1, hv0.kept g1 (nb hv0), fun w2 v' g2 hO hloc => ?_⟩
  have hb2 : w2.heap[b]? = some (.map es1 clock1) := (g2.block b (by rw [hs1]; exact hlt) (fun e => by rcases nb hv0 with q | q; rw [q] at e; cases e; exact q e.symm)).trans hb1
  obtain ⟨es', clock', hst, hup⟩ := hstore w2 v' hb2
  have g3 := set_grown hb2 es' clock'
  obtain ⟨es2, clock2, hrun2, F2, hput, _, _, hwho⟩ := Go.Maps.fit_store (R' := R0) (val := v') pKd mapT h.heap h.fit (by have := h.size; unfold maxLen; omega) (fun _ _ _ z hz => hz) (keyOf_p hp) (yv := (.nil, [])) rfl
  rw [hup] at hrun2
  have e2 : setBlock w b (.map es' clock') = setBlock w b (.map es2 clock2) := by simpa using hrun2
  have e3 : some (Obj.map es' clock') = some (Obj.map es2 clock2) := by rw [← heap_setBlock_same h.heap (.map es' clock'), e2, heap_setBlock_same h.heap]
  obtain ⟨rfl, rfl⟩ : es' = es2 ∧ clock' = clock2 := by simpa using e3
  clear hrun2 e2 e3 hup
  have hD : dO es' = (dO es).put (pK (pg n)) .nil := congrArg DataW.map hput
  have hmap : Go.Maps.IsMap (dO es) := ⟨_, rfl⟩
  have hkl : WideAt.IsKeyLit (pK (pg n)) := pKd.key (keyOf_p hp)
  have old : ∀ x ∈ es.toList, x.key ≠ pV (pg n) → ∀ q, x.key = pV q → OwnZ (setBlock w2 b (.map es' clock')) base x.val (zO (grO pg (n + 1) q)) ∧ ∀ g, x.val.ownBlock = some g → g < w.heap.size := fun x hx hne q hq => by
    have hqp : pg n ≠ q := fun e => hne (by rw [hq, e])
    have o0 := h.row x hx q hq
    rw [gr_succ, if_neg hqp]
    exact ⟨((o0.kept g1 (nb o0)).kept g2 (ha0 x hx hne)).kept g3 (nb o0), fun g hg => (o0.lt hg).2⟩
  refine ⟨_, hst, ⟨es', clock', heap_setBlock_same hb2 _, F2, ?_, h.bb, ?_, ?_, ?_⟩, g3⟩
  · have := Go.Maps.size_put (h.owns.tidy pKd) (k := pK (pg n)) (.nil : DataW Unit)
    rw [← hD, size_dO, size_dO] at this
    have hs := h.size
    split at this <;> omega
  · intro q hq
    rw [hD]
    by_cases e : q = pg n
    · subst e
      rw [Go.Maps.has_put_same hmap hkl]
      exact ⟨fun _ => ⟨n, by omega, rfl⟩, fun _ => rfl⟩
    · rw [Go.Maps.has_put_other (fun e1 => e (pK_inj hq hp e1)), h.has q hq]
      constructor
      · rintro ⟨i, hi, hi2⟩; exact ⟨i, by omega, hi2⟩
      · rintro ⟨i, hi, hi2⟩
        refine ⟨i, ?_, hi2⟩
        rcases Nat.lt_or_ge i n with g | g
        · exact g
        · have : i = n := by omega
          subst this; exact absurd hi2.symm e
  · intro x hx q hq
    rcases hwho x hx with ⟨hx0, hne⟩ | ⟨hk, hv⟩
    · exact (old x hx0 hne q hq).1
    · have e : pg n = q := pV_inj (hk.symm.trans hq)
      rw [hv, ← e, gr_succ, if_pos rfl]
      have : zO (grO pg n (pg n) ++ [n]) = zO (grO pg n (pg n)) ++ [(n : Int)] := by simp [zO]
      rw [this]
      exact hO.kept g3 (nb hO)
  · intro x hx y hy hne
    rcases hwho x hx with ⟨hx0, hxk⟩ | ⟨hxk, hxv⟩ <;> rcases hwho y hy with ⟨hy0, hyk⟩ | ⟨hyk, hyv⟩
    · exact h.apart x hx0 y hy0 hne
    · rw [hyv]
      obtain ⟨kx, hkx, _⟩ := keyOf_inv (Go.WideElems.rd_key (h.fit.reads x hx0).choose_spec)
      rcases hloc with e | e
      · rw [e]; exact ha0 x hx0 hxk
      · rw [e]
        refine .inr (fun e2 => ?_)
        have := (old x hx0 hxk kx hkx).2 _ e2
        omega
    · rw [hxv]
      obtain ⟨ky, hky, _⟩ := keyOf_inv (Go.WideElems.rd_key (h.fit.reads y hy0).choose_spec)
      cases hv' : v'.ownBlock with
      | none => exact .inl rfl
      | some g =>
        refine .inr (fun e2 => ?_)
        rcases hloc with e | e
        · rcases ha0 y hy0 hyk with q | q
          · rw [q] at e2; cases e2
          · exact q (by rw [← e2, ← e, hv'])
        · have := (old y hy0 hyk ky hky).2 _ e2.symm
          rw [hv'] at e
          have e4 : g = (setBlock w b (.map es1 clock1)).heap.size := by simpa using e
          omega
    · exact absurd (hxk.trans hyk.symm) hne
end Go.Proofs.YtmlojndkpnhalaaGreat.Crs
namespace Go.Proofs.YtmlojndkpnhalaaGreat.Crs
open Go.ChangeShapes Go.WideShapes Go.ChangeAt Go.RowKit
open Go.Proofs.YtmlojndkpnhalaaGreat.Num Go.Proofs.YtmlojndkpnhalaaGreat.Kit
set_option linter.unusedVariables false
set_option linter.unusedSimpArgs false
theorem pk_same (p : Int × Int) : (pK p).sameKey (pK p) = true := by simp [pK, Lit.sameKey]
theorem pk_other {p q : Int × Int} (hp : pW p) (hq : pW q) (h : q ≠ p) : (pK q).sameKey (pK p) = false := Go.Maps.sameKey_ne (fun e => h (pK_inj hq hp e))
def CollP (D0 : DataW Unit) (left : Lit → Bool) (ss : List (Int × Int)) : Prop :=
  ss.Nodup ∧ (∀ p ∈ ss, pW p) ∧ ∀ p, pW p → (p ∈ ss ↔ (Go.Maps.has D0 (pK p) = true ∧ left (pK p) = false))
def AllP (D0 : DataW Unit) (ss : List (Int × Int)) : Prop := ss.Nodup ∧ (∀ p ∈ ss, pW p) ∧ ∀ p, pW p → (p ∈ ss ↔ Go.Maps.has D0 (pK p) = true)
theorem CollP.start (D0 : DataW Unit) : CollP D0 (Go.Maps.has D0) [] := ⟨List.nodup_nil, by simp, fun p _ => by cases Go.Maps.has D0 (pK p) <;> simp⟩
theorem CollP.step {D0 : DataW Unit} {left : Lit → Bool} {ss : List (Int × Int)} (h : CollP D0 left ss) {p : Int × Int} (hp : pW p) {y : DataW Unit} (hlk : left (pK p) = true) (hat : ∀ zd, D0.atKey (pK p) zd = y) :
    CollP D0 (fun z => left z && !z.sameKey (pK p)) (ss ++ [p]) := by
  have hhas : Go.Maps.has D0 (pK p) = true := Go.Maps.has_true_of_atKey hat
  have hnew : p ∉ ss := fun hx => by have := ((h.2.2 p hp).1 hx).2; rw [hlk] at this; cases this
  refine ⟨List.nodup_append.2 ⟨h.1, by simp, fun a ha b hb => by simp at hb; subst hb; exact fun e => hnew (e ▸ ha)⟩, fun q hq => ?_, fun q hq => ?_⟩
  · rcases List.mem_append.1 hq with hq | hq
    · exact h.2.1 q hq
    · simp at hq; subst hq; exact hp
  · by_cases e : q = p
    · subst e; simp [hhas, pk_same]
    · have := h.2.2 q hq
      simp [this, e, pk_other hp hq e]
theorem CollP.all {D0 : DataW Unit} {left : Lit → Bool} {ss : List (Int × Int)} (h : CollP D0 left ss) (hl : ∀ kl, left kl = false) : AllP D0 ss :=
  ⟨h.1, h.2.1, fun p hp => by rw [h.2.2 p hp, hl]; simp⟩
set_option maxRecDepth 100000 in
set_option maxHeartbeats 1000000 in
theorem keys1_in (l Bm b nn : Nat) (D0 : DataW Unit) (n : Nat) (hn : 1 ≤ n) (J : List (Int × Int) → World → Prop)
    (hY : ∀ pre x W, J pre W → pre.length < Go.Maps.size D0 → YieldAt Fence.wide (n - 1) Tryz.prog l #[pV x] W fun e W' => e = .returned (.bool true) ∧ J (pre ++ [x]) W' ∧ KeepsWalks W W')
    (W : World) (hJ : AbidesFrom W.heap.size J) (hm : W.cell? ⟨Bm, 0, none⟩ = some (.map (some b))) (hown : W.ownsMap Tryz.prog 113 R0 b nn D0) (h0 : J [] W) :
    CallsIn Fence.wide n Tryz.prog 138 #[.func (.yield l) #[] #[], .pointer (some ⟨Bm, 0, none⟩)] W fun e W' => (∃ v, e = .returned v) ∧ ∃ ss : List (Int × Int), AllP D0 ss ∧ J ss W' := by
  refine callsIn_of_wp Tryz.func138 rfl trivial ?_ rfl
  simp only [Tryz.ntmps138, List.size_toArray, List.length_cons, List.length_nil, Nat.reduceAdd, Nat.reduceSub, Array.replicate_succ, Array.replicate_zero, List.push_toArray, List.append_toArray, List.nil_append, List.cons_append]
  gi_wp2_with (first
    | (gi_at_range; refine wpListIn_range_own _ rfl _ 128 rfl 113 38 pKd mapT _ b nn _ rfl hown ?_; intro w0 hrg0 hg0 hs0)
    | gi_in)
  go_frame
  gi_loopw [3] (fun _ wr => ∃ (left : Lit → Bool) (cnt : Nat) (ss : List (Int × Int)), wr.ranges Tryz.prog 113 R0 b W.heap.size nn D0 left cnt ∧ ss.length + cnt ≤ Go.Maps.size D0 ∧ CollP D0 left ss ∧ J ss wr)
    (fun _ wr => wr.rangeLeft b W.heap.size)
  case atStart =>
    exact ⟨_, _, [], hrg0, by simp, CollP.start D0, hJ [] W w0 none h0 hg0 (fun r e => by cases e)⟩
  case round =>
    obtain ⟨left, cnt, ss, hrg, hcs, hC, hJs⟩ := hrel
    gi_wp2_with (first
      | (gi_at_next; refine wpListIn_next_ranges _ rfl _ rfl 113 pKd R0 pV id (fun key kl hk => by obtain ⟨x, hx, _⟩ := keyOf_inv hk; exact ⟨x, hx⟩) (fun v _ _ => ⟨v, rfl⟩) b W.heap.size nn _ _ _ rfl hrg ?_ ?_)
      | gi_in)
    · intro hc0 hl0
      gi_wp2
      go_end0
      exact ⟨⟨_, rfl⟩, ss, hC.all hl0, hJs⟩
    · intro x1 x2 c kl yd yp w2 cnt2 hkey hlk hv hat hrg2 hlt hg2 hs2 hen
      obtain ⟨x', ex, rfl, hw⟩ := keyOf_inv hkey
      obtain rfl : (x1, x2) = x' := pV_inj ex
      have hJ2 : J ss w2 := hJ ss wr w2 (some W.heap.size) hJs hg2 (fun r e => by cases e; exact ⟨Nat.le_refl _, hrg.iter_walk⟩)
      have hJ3 := hJ ss w2 (w2.alloc (.cells #[.int .i64 x1, .int .i64 x2] 113)) none hJ2 (World.grownBy_alloc _ _ none) (fun r e => by cases e)
      obtain ⟨fn, tmps, assign, body, hy, hR⟩ := hY ss (x1, x2) _ hJ3 (by omega)
      clear hs2
      gi_wp2
      refine hR.mono ?_
      rintro e W3 ⟨rfl, hJ4, hk3⟩
      gi_wp2
      have hrg3 := (hrg2.alloc (.cells #[.int .i64 x1, .int .i64 x2] 113)).of_walks hk3
      go_roundw
      case rel => exact ⟨_, cnt2, ss ++ [(x1, x2)], hrg3, by simp; omega, hC.step hw hlk hat, hJ4⟩
      case measure => rw [hrg3.left_eq, hrg.left_eq]; exact hlt
theorem keys_gives (Bm b nn : Nat) (D0 : DataW Unit) (n : Nat) (hn : 1 ≤ n) (w : World) (hBm : Bm < w.heap.size)
    (hm : w.cell? ⟨Bm, 0, none⟩ = some (.map (some b))) (hown : w.ownsMap Tryz.prog 113 R0 b nn D0) :
    SeqGives Fence.wide n Tryz.prog 138 #[.pointer (some ⟨Bm, 0, none⟩)] pV (AllP D0) (Go.Maps.size D0) w := fun l J W hW hJ hY h0 => by
  have hown' : W.ownsMap Tryz.prog 113 R0 b nn D0 := by
    have hbl := hown.lt
    obtain ⟨es, clock, hb, Ft, hs, hD⟩ := hown
    exact ⟨es, clock, (hW.block b hbl).trans hb, Ft, hs, hD⟩
  exact keys1_in l Bm b nn D0 n hn J hY W hJ ((hW.cell (p := ⟨Bm, 0, none⟩) hBm).trans hm) hown' h0
set_option maxHeartbeats 1000000 in
theorem keys_in (n : Nat) (mb : Option Nat) (w : World) :
    CallsIn Fence.wide n Tryz.prog 73 #[.map mb] w fun e w' => e = .returned (.func (.func 138) #[] #[.pointer (some ⟨w.heap.size, 0, none⟩)]) ∧ w' = w.alloc (.cells #[.map mb] 128) := by
  refine callsIn_of_wp Tryz.func73 rfl trivial ?_ rfl
  simp only [Tryz.ntmps73, List.size_toArray, List.length_cons, List.length_nil, Nat.reduceAdd, Nat.reduceSub, Array.replicate_succ, Array.replicate_zero, List.push_toArray, List.append_toArray, List.nil_append, List.cons_append]
  gi_wp2
  go_ret
  exact ⟨rfl, rfl⟩
theorem cell_two_new (W : World) (a b : Value) (t : TypeId) : ∀ j u, ([a, b] : List Value)[j]? = some u → (W.alloc (.cells #[a, b] t)).cell? ((⟨W.heap.size, 0, none⟩ : Addr).add j) = some u := by
  intro j u h
  match j with
  | 0 => simp at h; subst h; exact boxed 0 rfl rfl
  | 1 => simp at h; subst h; exact boxed 1 rfl rfl
  | n + 2 => simp at h
def cellsPg (ss : List (Int × Int)) : List Value := ss.flatMap fun p => [.int .i64 p.1, .int .i64 p.2]
theorem cellsPg_snoc (ss : List (Int × Int)) (p : Int × Int) : cellsPg (ss ++ [p]) = cellsPg ss ++ [.int .i64 p.1, .int .i64 p.2] := by simp [cellsPg]
theorem cellsPg_len (ss : List (Int × Int)) : (cellsPg ss).length = ss.length * 2 := by
  induction ss with
  | nil => rfl
  | cons a r ih => simp [cellsPg] at ih ⊢; omega
theorem progInfo : (Tryz.prog.info? 113).map (fun i => (i.zero, i.size, i.bytes)) = some (some (pV (0, 0)), 2, 16) := by kernel_rfl
def apAssign : Code := Code.region 2 #[{ dst := some 5, op := Op.alloc 113, type := 0, pos := "iter.go:51", after := #[], guard := none }, { dst := none, op := Op.store 113 (Operand.tmp 5) (Operand.tmp 7), type := 0, pos := "iter.go:51", after := #[{ on := 0, ground := Ground.data }, { on := 0, ground := Ground.phase }], guard := none }] false
def apBody : Code := Code.block 1 (Code.region 3 #[{ dst := some 8, op := Op.load 129 (Operand.tmp 2), type := 129, pos := "iter.go:52", after := #[], guard := none }, { dst := some 9, op := Op.load 113 (Operand.tmp 5), type := 113, pos := "iter.go:52", after := #[], guard := none }, { dst := some 10, op := Op.buildSlice 129 1 #[(0, Operand.tmp 9)], type := 129, pos := "iter.go:52", after := #[{ on := 1, ground := Ground.data }], guard := none }, { dst := some 11, op := Op.call { callee := Callee.builtin Builtin.append, args := #[Operand.tmp 8, Operand.tmp 10], argTypes := #[129, 129] }, type := 129, pos := "iter.go:52", after := #[{ on := 0, ground := Ground.data }, { on := 2, ground := Ground.data }], guard := none }, { dst := none, op := Op.store 129 (Operand.tmp 2) (Operand.tmp 11), type := 0, pos := "iter.go:52", after := #[{ on := 3, ground := Ground.data }, { on := 3, ground := Ground.chain }, { on := 0, ground := Ground.phase }, { on := 1, ground := Ground.phase }, { on := 2, ground := Ground.phase }, { on := 3, ground := Ground.phase }], guard := none }] false)
def apRec (fn : FuncId) (sv : Value) (Bs D : Nat) (st : LoopState) (pend : Option Code) : Loop :=
  { state := st, pending := pend, fn, tmps := #[.slice none 0 0, sv, .pointer (some ⟨Bs, 0, none⟩), undef, .slice none 0 0, undef, sv, undef, undef, undef, undef, undef, undef], params := #[7], assign := apAssign, body := apBody, defers := D }
structure ApAt (w0 : World) (fn : FuncId) (sv : Value) (Bs l D : Nat) (ss : List (Int × Int)) (W : World) : Prop where
  box : ∃ v, W.heap[Bs]? = some (.cells #[v] 129 (0, 0)) ∧ W.ownsRow w0.heap.size 113 2 v ss.length (cellsPg ss) ∧ (v = .slice none 0 0 ↔ ss = [])
  L : W.heap[l]? = some (.loop (apRec fn sv Bs D .ready none))
  K : W.heap[D]? = some (.deferred (some []))
  below : Below w0.heap.size w0 W
theorem ap_abides (w0 : World) (fn : FuncId) (sv : Value) (Bs l D B : Nat) (hB : w0.heap.size ≤ B) : AbidesFrom B (ApAt w0 fn sv Bs l D) := fun s W W' row h hg hrow => by
  have hrow' : ∀ r, row = some r → ∃ o : Obj, W.heap[r]? = some o ∧ o.isWalk = true := fun r e => (hrow r e).2
  obtain ⟨v, hv, hr, hn⟩ := h.box
  exact ⟨⟨v, (grownBy_keeps hg hrow' hv rfl).trans hv, ownsRow_abides_a hr hg hrow', hn⟩, (grownBy_keeps hg hrow' h.L rfl).trans h.L, (grownBy_keeps hg hrow' h.K rfl).trans h.K,
    h.below.grown hg h.below.size (fun k e => Nat.le_trans hB (hrow k e).1)⟩
set_option maxRecDepth 100000 in
set_option maxHeartbeats 2000000 in
theorem apYield (m : Nat) (w0 : World) (fn : FuncId) (sv : Value) (Bs l D : Nat) (hBl : Bs ≠ l) (hDl : D ≠ l) (hDB : D ≠ Bs) (h0B : w0.heap.size ≤ Bs) (h0l : w0.heap.size ≤ l)
    (N : Nat) (hN : N ≤ maxLen) (hNb : N * 16 ≤ 140737488355328) (ss : List (Int × Int)) (x : Int × Int) (W : World) (h : ApAt w0 fn sv Bs l D ss W) (hlen : ss.length < N) :
    YieldAt Fence.wide m Tryz.prog l #[pV x] W fun e W' => e = .returned (.bool true) ∧ ApAt w0 fn sv Bs l D (ss ++ [x]) W' ∧ KeepsWalks W W' := by
  have hne : (129 : TypeId) ≠ 113 := by decide
  obtain ⟨i0, hi, hz0, hz1, hz2⟩ := info_parts progInfo
  obtain ⟨v, hv, hrow, _⟩ := h.box
  refine ⟨fn, #[.slice none 0 0, sv, .pointer (some ⟨Bs, 0, none⟩), undef, .slice none 0 0, undef, sv, pV x, undef, undef, undef, undef, undef], apAssign, apBody, by simpa [apRec] using run_yield (P := Tryz.prog) (args := #[pV x]) h.L rfl, roundIn_of_wpIn trivial ?_⟩
  have hl : l < W.heap.size := (Array.getElem?_eq_some_iff.1 h.L).1
  have hBl0 : Bs < W.heap.size := (Array.getElem?_eq_some_iff.1 hv).1
  have hD0 : D < W.heap.size := (Array.getElem?_eq_some_iff.1 h.K).1
  -- the round's variable is boxed
  obtain ⟨Wa, hWa⟩ : ∃ Wa, W.alloc (.cells #[.int .i64 x.1, .int .i64 x.2] 113) = Wa := ⟨_, rfl⟩
  have hsa : Wa.heap.size = W.heap.size + 1 := by rw [← hWa]; simp
  have hxa : Wa.heap[W.heap.size]? = some (.cells #[.int .i64 x.1, .int .i64 x.2] 113 (0, 0)) := by rw [← hWa]; exact World.alloc_heap_new W _
  have hva : Wa.heap[Bs]? = some (.cells #[v] 129 (0, 0)) := by rw [← hWa]; exact (Below.heap_alloc _ _ Bs hBl0).trans hv
  have hKa : Wa.heap[D]? = some (.deferred (some [])) := by rw [← hWa]; exact (Below.heap_alloc _ _ D hD0).trans h.K
  have hLa : Wa.heap[l]? = some (.loop (apRec fn sv Bs D .ready none)) := by rw [← hWa]; exact (Below.heap_alloc _ _ l hl).trans h.L
  have hrowa : Wa.ownsRow w0.heap.size 113 2 v ss.length (cellsPg ss) := by rw [← hWa]; exact hrow.alloc _
  have hba : Below w0.heap.size w0 Wa := by rw [← hWa]; exact h.below.alloc h.below.size _
  have hka : KeepsWalks W Wa := by rw [← hWa]; exact KeepsWalks.alloc _ _
  have hbr := run_beginRound (P := Tryz.prog) hLa rfl
  obtain ⟨W2, hW2⟩ : ∃ W2, Wa.putObj l (.loop { apRec fn sv Bs D .ready none with state := .busy }) = W2 := ⟨_, rfl⟩
  rw [hW2] at hbr
  have hg2 : Wa.grownBy W2 (some l) := by rw [← hW2]; exact grownBy_putObj_a _ _ _
  have hk2 : KeepsWalks W W2 := by rw [← hW2]; exact hka.trans (KeepsWalks.putObj _ hLa rfl)
  have hv2 : W2.heap[Bs]? = some (.cells #[v] 129 (0, 0)) := by rw [← hW2]; exact (World.putObj_heap_other hBl).trans hva
  have hx2 : W2.heap[W.heap.size]? = some (.cells #[.int .i64 x.1, .int .i64 x.2] 113 (0, 0)) := by rw [← hW2]; exact (World.putObj_heap_other (by omega)).trans hxa
  have hK2 : W2.heap[D]? = some (.deferred (some [])) := by rw [← hW2]; exact (World.putObj_heap_other hDl).trans hKa
  have hL2 : W2.heap[l]? = some (.loop { apRec fn sv Bs D .ready none with state := .busy }) := by rw [← hW2]; exact World.putObj_heap_same (by omega)
  have hrow2 : W2.ownsRow w0.heap.size 113 2 v ss.length (cellsPg ss) := hrowa.kept hg2 (ownsRow_ne_a hrowa hLa (fun cur e => by cases e))
  have hb2 : Below w0.heap.size w0 W2 := hba.grown hg2 hba.size (fun k e => by cases e; exact h0l)
  have hBlt : Bs < W2.heap.size := (Array.getElem?_eq_some_iff.1 hv2).1
  have hl2 : l < W2.heap.size := (Array.getElem?_eq_some_iff.1 hL2).1
  have hDlt : D < W2.heap.size := (Array.getElem?_eq_some_iff.1 hK2).1
  obtain ⟨hc2, hf2⟩ := cell_of_box_a hv2
  have hx0 : W2.cell? ⟨W.heap.size, 0, none⟩ = some (.int .i64 x.1) := by simp [World.cell?, hx2]
  have hx1 : W2.cell? ⟨W.heap.size, 1, none⟩ = some (.int .i64 x.2) := by simp [World.cell?, hx2]
  have ne_of : ∀ {j : Nat} {o : Obj}, W2.heap[j]? = some o → (∀ cur, o ≠ .cells cur 113 (0, 0)) → some j ≠ v.ownBlock := fun hj hno => by
    rcases ownsRow_ne_a hrow2 hj hno with e | e
    · rw [e]; simp
    · exact fun e' => e e'.symm
  have hne' : ∀ cur cur' : Array Value, (Obj.cells cur 129 (0, 0)) ≠ .cells cur' 113 (0, 0) := fun cur cur' e => hne (Obj.cells.inj e).2.1
  clear hW2
  unfold apAssign
  gi_wp2_with gi_round_op_a
  clear hbr hWa
  unfold apBody
  gi_wp2_with (first
    | (gi_at_builtin; refine wpListIn_append_own _ rfl _ _ 129 rfl w0.heap.size 113 i0 (pV (0, 0)) 2 16 Tryz.underlying129 hi hz0 hz1 hz2 rfl (by decide) _ _ _ rfl (hrow2.alloc _) ⟨W2.heap.size, 0, none⟩ 1 1 [.int .i64 x.1, .int .i64 x.2] rfl rfl (cell_two_new _ _ _ _) (by simp [Value.oneCell']) (by omega) (by omega) (by have := hb2.size; simp; omega) ?_; intro v' w3 hown' hg3 hnil3
       have hv3 : w3.heap[Bs]? = some (.cells #[v] 129 (0, 0)) := (hg3.block Bs (by simp; omega) (ne_of hv2 (fun cur => hne' _ _))).trans ((Below.heap_alloc _ _ Bs hBlt).trans hv2)
       obtain ⟨hc3, hf3⟩ := cell_of_box_a hv3
       obtain ⟨g', cap', cur', rfl, hbase', hgb', hr1, hr2, hr3, hr4⟩ : ∃ g' cap' cur', v' = .slice (some ⟨g', 0, none⟩) (ss.length + 1) cap' ∧ w0.heap.size ≤ g' ∧ w3.heap[g']? = some (.cells cur' 113 (0, 0)) ∧ ss.length + 1 ≤ cap' ∧ cap' ≤ maxLen ∧ cur'.size = cap' * 2 ∧ cur'.toList.take ((ss.length + 1) * 2) = cellsPg ss ++ [.int .i64 x.1, .int .i64 x.2] := by
         rcases hown'.2 with ⟨_, h0⟩ | h'
         · exact absurd h0 (by omega)
         · exact h'
       go_frame)
    | gi_round_op_a)
  have hg3' : (W2.alloc (.cells #[.int .i64 x.1, .int .i64 x.2] 113)).grownBy w3 v.ownBlock := hg3
  have hL3 : w3.heap[l]? = some (.loop { apRec fn sv Bs D .ready none with state := .busy }) := (hg3'.block l (by simp; omega) (ne_of hL2 (fun cur e => by cases e))).trans ((Below.heap_alloc _ _ l hl2).trans hL2)
  have hK3 : w3.heap[D]? = some (.deferred (some [])) := (hg3'.block D (by simp; omega) (ne_of hK2 (fun cur e => by cases e))).trans ((Below.heap_alloc _ _ D hDlt).trans hK2)
  obtain ⟨w4, hw4⟩ : ∃ w4, w3.setCell ⟨Bs, 0, none⟩ (.slice (some ⟨g', 0, none⟩) (ss.length + 1) cap') = w4 := ⟨_, rfl⟩
  rw [hw4]
  have hg4 : w3.grownBy w4 (some Bs) := by rw [← hw4]; exact grownBy_setCell0_a _ _ _
  have hv4 : w4.heap[Bs]? = some (.cells #[.slice (some ⟨g', 0, none⟩) (ss.length + 1) cap'] 129 (0, 0)) := by rw [← hw4]; exact heap_setCell_box_a _ hv3
  have hL4 : w4.heap[l]? = some (.loop { apRec fn sv Bs D .ready none with state := .busy }) := (hg4.block l (Array.getElem?_eq_some_iff.1 hL3).1 (fun e => hBl (by cases e; rfl))).trans hL3
  have hK4 : w4.heap[D]? = some (.deferred (some [])) := (hg4.block D (Array.getElem?_eq_some_iff.1 hK3).1 (fun e => hDB (by cases e; rfl))).trans hK3
  have hrow4 := hown'.kept hg4 (ownsRow_ne_a hown' hv3 (fun cur => hne' _ _))
  have hl4 : l < w4.heap.size := (Array.getElem?_eq_some_iff.1 hL4).1
  have hb3 : Below w0.heap.size w0 w3 := (hb2.alloc hb2.size _).grown hg3' (by have := hb2.size; simp; omega) (fun k e => (hrow2.lt k e).1)
  have hb4 : Below w0.heap.size w0 w4 := hb3.grown hg4 hb3.size (fun k e => by cases e; exact h0B)
  have hk4 : KeepsWalks W w4 := ((hk2.trans (KeepsWalks.alloc _ _)).trans (KeepsWalks.of_grownBy hg3' (ownsRow_not_walk_a (hrow2.alloc _)))).trans (by rw [← hw4]; exact KeepsWalks.setCell _ _ _)
  clear hw4
  refine ⟨_, _, run_endRound none hL4, rfl, ⟨⟨_, (World.putObj_heap_other hBl).trans hv4, ?_, by simp⟩, World.putObj_heap_same hl4, (World.putObj_heap_other hDl).trans hK4, hb4.grown (grownBy_putObj_a _ _ _) hb4.size (fun k e => by cases e; exact h0l)⟩, hk4.trans (KeepsWalks.putObj _ hL4 rfl)⟩
  have := hrow4.kept (grownBy_putObj_a w4 l (.loop { { apRec fn sv Bs D .ready none with state := .busy } with state := if (none : Option Code).isNone then .ready else .done, pending := none })) (ownsRow_ne_a hrow4 hL4 (fun cur e => by cases e))
  rw [cellsPg_snoc, List.length_append]
  exact this
end Go.Proofs.YtmlojndkpnhalaaGreat.Crs
namespace Go.Proofs.YtmlojndkpnhalaaGreat.Crs
open Go.ChangeShapes Go.WideShapes Go.ChangeAt Go.RowKit
open Go.Proofs.YtmlojndkpnhalaaGreat.Num Go.Proofs.YtmlojndkpnhalaaGreat.Kit
set_option linter.unusedVariables false
set_option linter.unusedSimpArgs false
set_option maxRecDepth 100000 in
set_option maxHeartbeats 2000000 in
theorem appendSeq_in (n : Nat) (hn : 2 ≤ n) (g : Nat) (lb : Array Value) (eg : ∀ args w, (callFunc g args).run Tryz.prog w = .ok (.enter g args) w)
    (S : List (Int × Int) → Prop) (N : Nat) (hN : N ≤ maxLen) (hNb : N * 16 ≤ 140737488355328) (w : World) (hseq : SeqGives Fence.wide (n - 1) Tryz.prog g lb pV S N w) :
    CallsIn Fence.wide n Tryz.prog 201 #[.slice none 0 0, .func (.func g) #[] lb] w fun e w' => ∃ (v : Value) (ss : List (Int × Int)), e = .returned v ∧ S ss ∧ w'.ownsRow w.heap.size 113 2 v ss.length (cellsPg ss) ∧ (v = .slice none 0 0 ↔ ss = []) ∧ Below w.heap.size w w' := by
  have h1 : 1 ≤ n := by omega
  have hne : (129 : TypeId) ≠ 113 := by decide
  have hne' : ∀ cur cur' : Array Value, (Obj.cells cur 129 (0, 0)) ≠ .cells cur' 113 (0, 0) := fun cur cur' e => hne (Obj.cells.inj e).2.1
  refine callsIn_of_wp_marks Tryz.func201 rfl trivial ?_ rfl
  simp only [Tryz.ntmps201, List.size_toArray, List.length_cons, List.length_nil, Nat.reduceAdd, Nat.reduceSub, Array.replicate_succ, Array.replicate_zero, List.push_toArray, List.append_toArray, List.nil_append, List.cons_append]
  gi_wp2
  refine wpIn_rangeFunc ?_
  intro fn hfn
  obtain ⟨W0, hW0⟩ : ∃ W0, w.alloc (.cells #[.slice none 0 0] 129) = W0 := ⟨_, rfl⟩
  have hs0 : W0.heap.size = w.heap.size + 1 := by rw [← hW0]; simp
  have hv0 : W0.heap[w.heap.size]? = some (.cells #[.slice none 0 0] 129 (0, 0)) := by rw [← hW0]; exact World.alloc_heap_new w _
  have hb0 : Below w.heap.size w W0 := by rw [← hW0]; exact (Below.refl _ w).alloc (Nat.le_refl _) _
  rw [hW0]
  obtain ⟨W1, hW1⟩ : ∃ W1, (W0.alloc (.deferred (some []))).alloc (.loop (apRec fn (.func (.func g) #[] lb) w.heap.size W0.heap.size .ready none)) = W1 := ⟨_, rfl⟩
  have hold : ∀ k, k < W0.heap.size → W1.heap[k]? = W0.heap[k]? := fun k hk => by
    rw [← hW1]; exact (Below.heap_alloc _ _ k (by simp; omega)).trans (Below.heap_alloc _ _ k hk)
  have hb1 : Below w.heap.size w W1 := by rw [← hW1]; exact (hb0.alloc hb0.size _).alloc (by have := hb0.size; simp; omega) _
  have hs1 : W1.heap.size = W0.heap.size + 2 := by rw [← hW1]; simp
  have hM : ApAt w fn (.func (.func g) #[] lb) w.heap.size (W0.heap.size + 1) W0.heap.size [] W1 :=
    ⟨⟨_, (hold w.heap.size (by omega)).trans hv0, ⟨rfl, .inl ⟨rfl, rfl⟩⟩, by simp⟩,
     by rw [← hW1]; have := World.alloc_heap_new (W0.alloc (.deferred (some []))) (.loop (apRec fn (.func (.func g) #[] lb) w.heap.size W0.heap.size .ready none)); rwa [World.size_alloc] at this,
     by rw [← hW1]; exact (Below.heap_alloc _ _ _ (by simp)).trans (World.alloc_heap_new W0 _), hb1⟩
  refine ⟨W0.heap.size + 1, [{ target := .collected W0.heap.size, args := #[] }], W1, { target := .fn (.func g) lb, args := #[.func (.yield (W0.heap.size + 1)) #[] #[]] }, W1, g,
    #[.func (.yield (W0.heap.size + 1)) #[] #[]] ++ lb, W1, ?_, ?_, ?_, ?_, fun _ => h1, ?_⟩
  · rw [← hW1]; exact run_enterLoop_outer _ _ _ _ _
  · simp [resolve, go_sem]
  · intro f' hf'; simp [Target.leads] at hf'; subst hf'; trivial
  · simp [invoke, go_sem, eg]
  · refine (hseq (W0.heap.size + 1) (ApAt w fn (.func (.func g) #[] lb) w.heap.size (W0.heap.size + 1) W0.heap.size) W1 hb1 (ap_abides _ _ _ _ _ _ _ hb1.size)
      (fun pre x W hJ hl => apYield (n - 1 - 1) w fn _ w.heap.size (W0.heap.size + 1) W0.heap.size (by omega) (by omega) (by omega) (Nat.le_refl _) (by omega) N hN hNb pre x W hJ hl) hM).mono ?_
    rintro e W2 ⟨⟨v0, rfl⟩, ss, hS, h2⟩
    obtain ⟨v, hv, hrow, hnil⟩ := h2.box
    have hend := run_endLoop (P := Tryz.prog) h2.L (by simp [apRec])
    obtain ⟨W3, hW3⟩ : ∃ W3, W2.putObj (W0.heap.size + 1) (.loop { apRec fn (.func (.func g) #[] lb) w.heap.size W0.heap.size .ready none with state := .exhausted }) = W3 := ⟨_, rfl⟩
    rw [hW3] at hend
    have hg3 : W2.grownBy W3 (some (W0.heap.size + 1)) := by rw [← hW3]; exact grownBy_putObj_a _ _ _
    have hv3 : W3.heap[w.heap.size]? = some (.cells #[v] 129 (0, 0)) := by rw [← hW3]; exact (World.putObj_heap_other (by omega)).trans hv
    have hK3 : W3.heap[W0.heap.size]? = some (.deferred (some [])) := by rw [← hW3]; exact (World.putObj_heap_other (by omega)).trans h2.K
    have hrow3 := hrow.kept hg3 (ownsRow_ne_a hrow h2.L (fun cur e => by cases e))
    have hb3 : Below w.heap.size w W3 := h2.below.grown hg3 h2.below.size (fun k e => by cases e; omega)
    obtain ⟨hc3, hf3⟩ := cell_of_box_a hv3
    clear hW3
    refine ⟨none, W3, hend, ?_⟩
    gi_wp2
    rw [← hs0]
    refine ⟨by simp, .inl ⟨_, _, rfl, run_takeDeferred hK3, ?_⟩⟩
    exact ⟨_, results_tmp rfl _ _ _, v, ss, rfl, hS, hrow3.kept (grownBy_putObj_a _ _ _) (ownsRow_ne_a hrow3 hK3 (fun cur e => by cases e)), hnil, hb3.grown (grownBy_putObj_a _ _ _) hb3.size (fun k e => by cases e; omega)⟩
set_option maxHeartbeats 1000000 in
theorem collect_in (n : Nat) (hn : 3 ≤ n) (g : Nat) (lb : Array Value) (eg : ∀ args w, (callFunc g args).run Tryz.prog w = .ok (.enter g args) w)
    (S : List (Int × Int) → Prop) (N : Nat) (hN : N ≤ maxLen) (hNb : N * 16 ≤ 140737488355328) (w : World) (hseq : SeqGives Fence.wide (n - 1 - 1) Tryz.prog g lb pV S N w) :
    CallsIn Fence.wide n Tryz.prog 136 #[.func (.func g) #[] lb] w fun e w' => ∃ (v : Value) (ss : List (Int × Int)), e = .returned v ∧ S ss ∧ w'.ownsRow w.heap.size 113 2 v ss.length (cellsPg ss) ∧ (v = .slice none 0 0 ↔ ss = []) ∧ Below w.heap.size w w' := by
  have h1 : 1 ≤ n := by omega
  have cA := appendSeq_in (n - 1) (by omega) g lb eg S N hN hNb w hseq
  have hfA : Fence.wide.fn 201 := trivial
  refine callsIn_of_wp Tryz.func136 rfl trivial ?_ rfl
  simp only [Tryz.ntmps136, List.size_toArray, List.length_cons, List.length_nil, Nat.reduceAdd, Nat.reduceSub, Array.replicate_succ, Array.replicate_zero, List.push_toArray, List.append_toArray, List.nil_append, List.cons_append]
  gi_wp2_with (gi_at_call 201; refine cA.mono ?_; rintro e w' ⟨v, ss, rfl, hS, hrow, hnil, hb⟩)
  go_ret
  exact ⟨v, ss, rfl, hS, hrow, hnil, hb⟩
end Go.Proofs.YtmlojndkpnhalaaGreat.Crs
