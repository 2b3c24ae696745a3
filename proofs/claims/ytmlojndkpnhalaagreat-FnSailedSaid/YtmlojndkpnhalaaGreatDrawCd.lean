import Derived.Test.YtmlojndkpnhalaaGreatDrawCo
import Derived.Maps.AppendAt
import Derived.Deep.LoopGhost
namespace Go.Proofs.YtmlojndkpnhalaaGreat.Crs
open Go.ChangeShapes Go.WideShapes Go.ChangeAt Go.RowKit
open Go.Proofs.YtmlojndkpnhalaaGreat.Num Go.Proofs.YtmlojndkpnhalaaGreat.Kit Go.Proofs.YtmlojndkpnhalaaGreat.Pts Go.Proofs.YtmlojndkpnhalaaGreat.Seg Go.Proofs.YtmlojndkpnhalaaGreat.Draw
set_option linter.unusedVariables false
set_option linter.unusedSimpArgs false
theorem step_append_at {P : Program} {ops : Array Oper} {o : Oper} {a : Act} {w : World} {K : Act → World → Prop} {Q : Exit → Act → World → Prop} {E : Prop}
    (hg : o.guard = none) (s x : Operand) (t : TypeId) (hop : o.op = Op.call { callee := Callee.builtin Builtin.append, args := #[s, x], argTypes := #[t, t] })
    (base : Nat) (e : TypeId) (i : TypeInfo) (z : Value) (size bytes : Nat) (h1 : P.underlying t = some (.slice e)) (h2 : P.info? e = some i) (h3 : i.zero = some z) (h4 : i.size = size) (h5 : i.bytes = bytes) (h6 : z.cells.size = size) (h7 : 0 < size)
    (v : Value) (n : Nat) (xs : List Value) (hs : a.eval s = v) (hown : w.ownsRow base e size v n xs)
    (ao : Option Addr) (m c : Nat) (news : List Value) (hx : a.eval x = .slice ao m c) (hnone : ao = none → m = 0 ∧ c = 0) (hn : news.length = m * size) (hc : ∀ ad, ao = some ad → ∀ j u, news[j]? = some u → w.cell? (ad.add j) = some u) (h1c : ∀ u ∈ news, u.oneCell' = true)
    (b1 : n + m ≤ maxLen) (b2 : (n + m) * bytes ≤ 140737488355328) (hb : base ≤ w.heap.size)
    (hK : ∀ v' w', w'.ownsRow base e size v' (n + m) (xs ++ news) → w.grownBy w' v.ownBlock → (v'.ownBlock = v.ownBlock ∨ v'.ownBlock = some w.heap.size) → K (a.put o.dst v') w') :
    if Region.wanted o (yielded ops a.tmps) = true then Oper.wp P o a w K Q else E := by
  rw [if_pos (by simp [Region.wanted, hg])]
  cases ao with
  | none =>
    obtain ⟨rfl, rfl⟩ := hnone rfl
    have hnews : news = [] := List.eq_nil_of_length_eq_zero (by simpa using hn)
    subst hnews
    have hrun := run_append_owned_none (P := P) w base t o.type e i size h1 h2 v n xs hown
    unfold Oper.wp execOp
    simp only [hop, resolve, invoke, builtin, Sem.run_bind, Sem.run_pure, Result.andThen_ok, List.map_toArray, List.map_cons, List.map_nil, hs, hx, hrun]
    exact hK v w (by simpa using hown) ⟨rfl, rfl, rfl, Nat.le_refl _, fun _ _ _ => rfl⟩ (.inl rfl)
  | some ad =>
    obtain ⟨v', w', hr, r2, r3, r4, r5⟩ := run_append_own_at (P := P) w base t o.type e i z size bytes h1 h2 h3 h4 h5 h6 h7 v n xs hown ad m c news hn (hc ad rfl) h1c b1 b2 hb
    unfold Oper.wp execOp
    simp only [hop, resolve, invoke, builtin, Sem.run_bind, Sem.run_pure, Result.andThen_ok, List.map_toArray, List.map_cons, List.map_nil, hs, hx, hr]
    exact hK v' w' r2 r3 r5
theorem box_grown9 {w w' : World} {n : Nat} {vs : List Value} {v : Value} (H : Box w n vs) (hg : w.grownBy w' v.ownBlock) (hn : v.ownBlock ≠ some n) : Box w' n vs := by
  intro i u hu
  obtain ⟨c, f⟩ := H i u hu
  have hl := World.block_lt_of_cell? w _ c
  have e := hg.block n hl (fun e => hn e.symm)
  exact ⟨(World.cell?_of_block (w := w) (a := ⟨n, i, none⟩) e).trans c, (World.frozen?_of_block (w := w) (a := ⟨n, i, none⟩) e).trans f⟩
theorem box_at {w : World} {n : Nat} {vs : List Value} (H : Box w n vs) (j : Nat) (u : Value) (h : vs[j]? = some u) : w.cell? ((⟨n, 0, none⟩ : Addr).add j) = some u := by
  rw [show (⟨n, 0, none⟩ : Addr).add j = ⟨n, j, none⟩ by simp [Addr.add]; omega]
  exact (H j u h).1
theorem ones9 (m : M5) : ∀ u ∈ ([.string m.n, .int .i64 m.x, .int .i64 m.y, .int .i64 m.s, .int .i64 m.z] : List Value), u.oneCell' = true := by
  intro u hu
  simp only [List.mem_cons, List.not_mem_nil, or_false] at hu
  rcases hu with rfl | rfl | rfl | rfl | rfl <;> rfl
theorem cellsM_snoc (ms : List M5) (m : M5) : cellsM (ms ++ [m]) = cellsM ms ++ [.string m.n, .int .i64 m.x, .int .i64 m.y, .int .i64 m.s, .int .i64 m.z] := by simp [cellsM]
theorem own_snoc {w : World} {base : Nat} {v : Value} {ms : List M5} {m : M5} (h : w.ownsRow base 145 5 v (ms.length + 1) (cellsM ms ++ [.string m.n, .int .i64 m.x, .int .i64 m.y, .int .i64 m.s, .int .i64 m.z])) : OwnM w base v (ms ++ [m]) := by
  unfold OwnM
  rw [cellsM_snoc, show (ms ++ [m]).length = ms.length + 1 by simp]
  exact h
abbrev set5 (w : World) (n : Nat) (a b c d e : Value) : World := ((((w.setCell ⟨n, 0, none⟩ a).setCell ⟨n, 1, none⟩ b).setCell ⟨n, 2, none⟩ c).setCell ⟨n, 3, none⟩ d).setCell ⟨n, 4, none⟩ e
theorem Box.set5c {w : World} {n : Nat} {x0 x1 x2 x3 x4 : Value} (H : Box w n [x0, x1, x2, x3, x4]) (a b c d e : Value) : Box (set5 w n a b c d e) n [a, b, c, d, e] :=
  ((((H.set 0 (by simp) a).set 1 (by simp) b).set 2 (by simp) c).set 3 (by simp) d).set 4 (by simp) e
theorem SC.set5 {W : World} {B n : Nat} {w' : World} (h : SC W B w') (h1 : B < n) (h2 : W.heap.size ≤ n) (a b c d e : Value) : SC W B (Crs.set5 w' n a b c d e) :=
  ((((h.set h1 h2 a).set h1 h2 b).set h1 h2 c).set h1 h2 d).set h1 h2 e
theorem SC.put9 {W : World} {B n : Nat} {w' : World} (h : SC W B w') (h1 : B < n) (h2 : W.heap.size ≤ n) (a b c d e f g i j : Value) : SC W B (Crs.put9 w' n a b c d e f g i j) :=
  ((((((((h.set h1 h2 a).set h1 h2 b).set h1 h2 c).set h1 h2 d).set h1 h2 e).set h1 h2 f).set h1 h2 g).set h1 h2 i).set h1 h2 j
theorem SC.other {W a b : World} {B n : Nat} (h : SC W B a) (k : Chg n a b) (hn : W.heap.size ≤ n) (hs : Src b B) : SC W B b :=
  ⟨⟨k.os.trans h.1.os, k.tape.trans h.1.tape, k.output.trans h.1.output, Nat.le_trans h.1.size k.size, fun i hi hne => by
    rw [k.block i (Nat.lt_of_lt_of_le hi h.1.size) (by omega)]; exact h.1.block i hi hne⟩, hs⟩
theorem SC.trans {W U : World} {B : Nat} {w' : World} (h : SC W B U) (k : SC U B w') : SC W B w' := ⟨h.1.trans k.1, k.2⟩
theorem floor_halfE (a : Int) (w : World) (h1 : -9223372036854775808 ≤ a) (h2 : a ≤ 9223372036854775807) : Calls Tryz.prog 129 #[.int .i64 a, .int .i64 2] w fun e w' => (∃ q : Int, e = .returned (.int .i64 q)) ∧ w = w' := by
  have h : (a.tdiv 2).natAbs = a.natAbs / (2 : Int).natAbs := Int.natAbs_tdiv a 2
  have h3 : (2 : Int).natAbs = 2 := rfl
  rw [h3] at h
  have g1 : -4611686018427387904 ≤ a.tdiv 2 ∧ a.tdiv 2 ≤ 4611686018427387904 := by omega
  have W1 : IntKind.i64.wrap (a.tdiv 2) = a.tdiv 2 := IntWalk.i64_in _ (by omega)
  have W2 : IntKind.i64.wrap (a.tdiv 2 - 1) = a.tdiv 2 - 1 := IntWalk.i64_in _ (by omega)
  by_cases hm : a.tmod 2 < 0
  · go_enter Tryz.func129, Tryz.ntmps129
    go_wp2
    go_ret
    exact ⟨⟨_, rfl⟩, rfl⟩
  · go_enter Tryz.func129, Tryz.ntmps129
    go_wp2
    go_ret
    exact ⟨⟨_, rfl⟩, rfl⟩
def nmL : List ByteArray := [⟨#[109, 49]⟩, ⟨#[109, 50]⟩, ⟨#[116, 111, 112]⟩, ⟨#[103, 97, 116, 101]⟩, ⟨#[109, 53]⟩, ⟨#[119, 105, 110, 103]⟩, ⟨#[109, 55]⟩, ⟨#[120, 56]⟩]
abbrev nmV : List Value := [.string ⟨#[109, 49]⟩, .string ⟨#[109, 50]⟩, .string ⟨#[116, 111, 112]⟩, .string ⟨#[103, 97, 116, 101]⟩, .string ⟨#[109, 53]⟩, .string ⟨#[119, 105, 110, 103]⟩, .string ⟨#[109, 55]⟩, .string ⟨#[120, 56]⟩]
def nmS (n : Nat) : ByteArray := nmL.getD n ⟨#[]⟩
theorem nm_at (n : Nat) (h : n < 8) : nmV[n]? = some (.string (nmS n)) :=
  match n, h with
  | 0, _ => rfl | 1, _ => rfl | 2, _ => rfl | 3, _ => rfl | 4, _ => rfl | 5, _ => rfl | 6, _ => rfl | 7, _ => rfl
theorem nm_size (n : Nat) : (nmS n).size ≤ maxLen := by
  unfold nmS nmL
  match n with
  | 0 => decide
  | 1 => decide
  | 2 => decide
  | 3 => decide
  | 4 => decide
  | 5 => decide
  | 6 => decide
  | 7 => decide
  | n + 8 => rw [List.getD_eq_getElem?_getD, List.getElem?_eq_none (by simp)]; decide
theorem fit_snoc {ms : List M5} {m : M5} (h : Fit ms) (hm : m.n.size ≤ maxLen) : Fit (ms ++ [m]) := by
  intro i hi
  unfold mk
  rw [List.getD_eq_getElem?_getD, List.getElem?_append]
  by_cases g : i < ms.length
  · rw [if_pos g, ← List.getD_eq_getElem?_getD]; exact h i g
  · rw [if_neg g]
    have : i - ms.length = 0 := by simp at hi; omega
    rw [this]; exact hm
theorem OwnM.src {w : World} {base : Nat} {v : Value} {ms : List M5} (h : OwnM w base v ms) : ∃ ao cap, v = .slice ao ms.length cap ∧ (ao = none → ms.length = 0 ∧ cap = 0) ∧ (∀ ad, ao = some ad → ∀ j u, (cellsM ms)[j]? = some u → w.cell? (ad.add j) = some u) := by
  rcases h.cases with ⟨hv, rfl⟩ | ⟨g, cap, hv, _, hO, _⟩
  · exact ⟨none, 0, hv, (fun _ => ⟨rfl, rfl⟩), (fun ad h => by cases h)⟩
  · exact ⟨some ⟨g, 0, none⟩, cap, hv, (fun h => by cases h), (fun ad h => by cases h; exact at_cellsM (fun i hi => by rw [Nat.zero_add]; exact (hO i hi).1))⟩
def ACo (B : Nat) (w : World) (e : Ending) (w' : World) : Prop :=
  ∃ (l k : L4) (v : Value) (ms : List M5), e = .returned (CV l k v) ∧ 1 ≤ ms.length ∧ ms.length ≤ 4 ∧ Fit ms ∧ OwnM w' w.heap.size v ms ∧ Src w' B ∧ Chg B w w'
def RelCo (w : World) (B C N : Nat) (n : Value) (wr : World) : Prop :=
  ∃ (l k : L4) (v : Value) (ms : List M5) (i : Nat), n = .int .i64 i ∧ ms.length + i ≤ 4 ∧ Fit ms ∧ OwnM wr (N + 1) v ms ∧ Box wr C (cellsC l k v) ∧ Box wr N nmV ∧ Box wr w.heap.size (cellsC zeroL zeroL (.slice none 0 0)) ∧ SC w B wr
def RelCp (w : World) (B C N : Nat) (wr : World) : Prop :=
  ∃ (l k : L4) (v : Value) (ms : List M5), ms.length ≤ 4 ∧ Fit ms ∧ OwnM wr (N + 1) v ms ∧ Box wr C (cellsC l k v) ∧ Box wr w.heap.size (cellsC zeroL zeroL (.slice none 0 0)) ∧ SC w B wr ∧ N < wr.heap.size
def lenC (wr : World) (C : Nat) : Nat := match wr.cell? ⟨C, 8, none⟩ with
  | some (.slice _ n _) => n
  | _ => 0
theorem lenC_eq {wr : World} {C n cap : Nat} {a : Option Addr} (h : wr.cell? ⟨C, 8, none⟩ = some (.slice a n cap)) : lenC wr C = n := by unfold lenC; rw [h]
theorem only_rel {w X : World} {B C N : Nat} {l k : L4} {v : Value} (x y : Int) (CB : Box X C (cellsC l k v)) (RB : Box X w.heap.size (cellsC zeroL zeroL (.slice none 0 0))) (S : SC w B X) (h1 : w.heap.size < C) (h2 : C < N) (h3 : N < X.heap.size) (hB : B < w.heap.size) :
    RelCp w B C N ((X.setCell ⟨C, 8, none⟩ (.slice (some ⟨X.heap.size, 0, none⟩) 1 1)).alloc (.cells #[.string ⟨#[111, 110, 108, 121]⟩, .int .i64 x, .int .i64 y, .int .i64 1, .int .i64 30] 145)) ∧
      lenC ((X.setCell ⟨C, 8, none⟩ (.slice (some ⟨X.heap.size, 0, none⟩) 1 1)).alloc (.cells #[.string ⟨#[111, 110, 108, 121]⟩, .int .i64 x, .int .i64 y, .int .i64 1, .int .i64 30] 145)) C = 1 := by
  obtain ⟨H, hH⟩ : ∃ H, H = X.heap.size := ⟨_, rfl⟩
  rw [← hH] at h3 ⊢
  have CB' := CB.set 8 (by simp) (.slice (some ⟨H, 0, none⟩) 1 1)
  have RB' := RB.away (p := ⟨C, 8, none⟩) (show C ≠ w.heap.size by omega) (.slice (some ⟨H, 0, none⟩) 1 1)
  have S' := S.set (p := ⟨C, 8, none⟩) (show B < C by omega) (show w.heap.size ≤ C by omega) (.slice (some ⟨H, 0, none⟩) 1 1)
  have z' : (X.setCell ⟨C, 8, none⟩ (.slice (some ⟨H, 0, none⟩) 1 1)).heap.size = H := by rw [hH]; simp
  generalize X.setCell ⟨C, 8, none⟩ (.slice (some ⟨H, 0, none⟩) 1 1) = Y at *
  have O : OwnM (Y.alloc (.cells #[.string ⟨#[111, 110, 108, 121]⟩, .int .i64 x, .int .i64 y, .int .i64 1, .int .i64 30] 145)) (N + 1) (.slice (some ⟨H, 0, none⟩) 1 1) [⟨⟨#[111, 110, 108, 121]⟩, x, y, 1, 30⟩] := by
    have := World.ownsRow_lit (base := N + 1) (e := 145) (size := 5) Y #[.string ⟨#[111, 110, 108, 121]⟩, .int .i64 x, .int .i64 y, .int .i64 1, .int .i64 30] 1 (by omega) (by unfold maxLen; omega) (by simp)
    rw [z'] at this
    simpa [OwnM, cellsM] using this
  have CB2 := CB'.alloc (.cells #[.string ⟨#[111, 110, 108, 121]⟩, .int .i64 x, .int .i64 y, .int .i64 1, .int .i64 30] 145)
  refine ⟨⟨l, k, _, [⟨⟨#[111, 110, 108, 121]⟩, x, y, 1, 30⟩], by simp, ?_, O, CB2, RB'.alloc _, S'.alloc _, by simp; omega⟩, lenC_eq (CB2 8 _ rfl).1⟩
  intro i hi
  obtain rfl : i = 0 := by simp at hi; omega
  show (ByteArray.mk #[111, 110, 108, 121]).size ≤ maxLen
  decide
theorem co_done {B : Nat} {w F : World} {tmps : Array Value} {l k : L4} {v : Value} {ms : List M5} (R : Box F w.heap.size (cellsC l k v)) (h1 : 1 ≤ ms.length) (h4 : ms.length ≤ 4) (hf : Fit ms) (hO : OwnM F w.heap.size v ms) (hS : SC w B F) (ha : tmps[2]? = some (.pointer (some ⟨w.heap.size, 0, none⟩))) :
    bodyPost Tryz.prog Tryz.f67 (ACo B w) Exit.ret ⟨tmps, []⟩ F := by
  obtain ⟨⟨g0, g1, g2, g3, g4, g5, g6, g7, g8⟩, _⟩ := Box.nine R
  exact bodyPost_ret (v := CV l k v) (by simp [results, Tryz.results67, go_sem, ha, g0, g1, g2, g3, g4, g5, g6, g7, g8]) rfl ⟨l, k, v, ms, rfl, h1, h4, hf, hO, hS.2, hS.1⟩
set_option maxRecDepth 100000 in
set_option maxHeartbeats 16000000 in
theorem drawCo_any (B : Nat) (w : World) (hs : Src w B) : Calls Tryz.prog 67 #[.pointer (some ⟨B, 0, none⟩)] w (ACo B w) := by
  have hB := hs.lt
  have nR : w.heap.size ≠ B := by omega
  have R := Lib.hid (Box.new (w := w) (n := w.heap.size) (vs := cellsC zeroL zeroL (.slice none 0 0)) (t := 30) rfl)
  have hC : SC w B (w.alloc (.cells (cellsC zeroL zeroL (.slice none 0 0)).toArray 30)) := ⟨(Chg.refl B w).alloc _, hs.alloc _⟩
  obtain ⟨ti, hin, hz0, hz1, hz2⟩ := info_parts markInfo
  go_enter Tryz.func67, Tryz.ntmps67
  go_wp2_with fail
  refine (drawLi_any B _ hC.2).mono ?_
  rintro e w1 ⟨a, b, c, d, rfl, hs1, hc⟩
  replace R := Lib.hid (R.out.chg hc nR)
  replace hC : SC w B w1 := ⟨hC.1.trans hc, hs1⟩
  have z1 := hc.size
  simp at z1
  clear hc hs1
  go_wp2_with fail
  refine (drawLi_any B _ hC.2).mono ?_
  rintro e w2 ⟨p, q, u, v, rfl, hs2, hc⟩
  replace R := Lib.hid (R.out.chg hc nR)
  replace hC : SC w B w2 := ⟨hC.1.trans hc, hs2⟩
  have z2 := hc.size
  clear hc hs hs2
  go_wp2_with fail
  have CB := Box.new (w := w2) (n := w2.heap.size) (vs := cellsC ⟨a, b, c, d⟩ ⟨p, q, u, v⟩ (.slice none 0 0)) (t := 30) rfl
  have NBx := Box.new (w := w2.alloc (.cells (cellsC ⟨a, b, c, d⟩ ⟨p, q, u, v⟩ (.slice none 0 0)).toArray 30)) (n := w2.heap.size + 1) (vs := nmV) (t := 9) (by simp)
  have hC3 := (hC.alloc (.cells (cellsC ⟨a, b, c, d⟩ ⟨p, q, u, v⟩ (.slice none 0 0)).toArray 30)).alloc (.cells nmV.toArray 9)
  have R3 := (R.out.alloc (.cells (cellsC ⟨a, b, c, d⟩ ⟨p, q, u, v⟩ (.slice none 0 0)).toArray 30)).alloc (.cells nmV.toArray 9)
  have C3 := CB.alloc (.cells nmV.toArray 9)
  obtain ⟨C, hCn⟩ : ∃ C, C = w2.heap.size := ⟨_, rfl⟩
  obtain ⟨N, hNn⟩ : ∃ N, N = w2.heap.size + 1 := ⟨_, rfl⟩
  have hCN : C < N := by omega
  have hwC : w.heap.size < C := by omega
  have nC : C ≠ B := by omega
  have nN : N ≠ B := by omega
  refine (next_pos B _ _ hC3.2 (by omega)).mono ?_
  rintro e w3 ⟨r, rfl, r0, r1, hs3, hc⟩
  obtain ⟨m, rfl⟩ := Int.eq_ofNat_of_zero_le r0
  have z3 := hc.size
  simp at z3
  have R4 := Lib.hid (R3.chg hc nR)
  have C4 := Lib.hid (C3.chg hc (by omega))
  have N4 := Lib.hid (NBx.chg hc (by omega))
  have S4 := Lib.hid (show SC w B w3 from ⟨hC3.1.trans hc, hs3⟩)
  have T0 : IntKind.i64.wrap (1 + (m : Int)) = ((m + 1 : Nat) : Int) := by rw [IntWalk.i64_in _ (by omega)]; omega
  rw [← hCn] at C4
  rw [← hNn] at N4
  clear CB NBx hC3 R3 C3 hc hs3 R hC
  rw [← hNn, ← hCn]
  have hN3 : N < w3.heap.size := by omega
  clear hCn hNn
  go_wp2
  go_loopw [5] (fun n wr => RelCo w B C N n wr) (fun n _ => (intOf n).toNat)
  case atStart => exact ⟨⟨a, b, c, d⟩, ⟨p, q, u, v⟩, .slice none 0 0, [], m + 1, by go_num, by simp; omega, fun i hi => absurd hi (by simp), World.ownsRow_nil w3 _ _ 5, C4.out, N4.out, R4.out, S4.out⟩
  case round =>
    obtain ⟨l, k, v, ms, i, rfl, hi4, hFit, hO, hCb, hNb, hRb, hSC⟩ := hrel
    obtain ⟨ao, cap, rfl, hnone, hA⟩ := hO.src
    obtain ⟨n, hn⟩ : ∃ n, n = ms.length := ⟨_, rfl⟩
    rw [← hn] at hi4 hnone
    have Hn := Lib.hid hn
    clear hn
    have HO := Lib.hid hO
    have HCb := Lib.hid hCb
    have HNb := Lib.hid hNb
    have HRb := Lib.hid hRb
    have HSC := Lib.hid hSC
    have HFit := Lib.hid hFit
    have HA0 := Lib.hid hA
    have lN := hNb.lt
    have lB := hSC.lt
    have zW := hSC.size
    clear hO hCb hNb hRb hSC hFit hA
    by_cases hi : 0 < i
    · have i0 : (0 : Int) ≤ (n : Int) := by omega
      have i1 : (n : Int) < 8 := by omega
      have i2 : (0 : Int) < (i : Int) := by omega
      have eC : ∀ w', SC wr B w' → w'.cell? ⟨C, 8, none⟩ = some (.slice ao n cap) := fun w' h => h.1.cellOf nC (by rw [Hn.out]; exact (HCb.out 8 _ rfl).1)
      have eN : ∀ w', SC wr B w' → w'.cell? ⟨N, n, none⟩ = some (.string (nmS n)) := fun w' h => h.1.cellOf nN (HNb.out n _ (nm_at n (by omega))).1
      have hS0 : SC wr B wr.drew := SC.drew ⟨Chg.refl _ _, HSC.out.2⟩
      go_upto_region 6 with fail
      go_cut [6] from 19 to 52 (fun s wx => (∃ (P : Nat) (m : M5), s = .pointer (some ⟨P, 0, none⟩) ∧ wr.heap.size ≤ P ∧ m.n.size ≤ maxLen ∧ Box wx P [.string m.n, .int .i64 m.x, .int .i64 m.y, .int .i64 m.s, .int .i64 m.z]) ∧ SC wr B wx)
      case first =>
        refine wp_region_held_drew (S := fun w' => SC wr B w') (by kernel_rfl) (by (try dsimp only); exact hS0) (fun hHeld => ?_)
        refine Ord.K 0 23 ?_; refine Ord.K 1 24 ?_; refine Ord.K 2 25 ?_; refine Ord.K 3 26 ?_; refine Ord.K 4 27 ?_; refine Ord.K 5 28 ?_; refine Ord.K 6 29 ?_; refine Ord.K 8 31 ?_; refine Ord.K 11 34 ?_
        have hS := hS0
        obtain ⟨V0, hV0⟩ : ∃ V0, V0 = wr.drew := ⟨_, rfl⟩
        rw [← hV0] at hS hHeld ⊢
        clear hV0 eC eN hS0
        refine wpAnyH_ready (rs := [7, 15]) (by kernel_rfl) (by simp) ?_
        refine (AllReadyH.cons rfl (fun K hK => ?_) (AllReadyH.cons rfl (fun K hK => ?_) AllReadyH.nil))
        · go_simp
          go_at_call 127
          refine (drawPoint_any B _ hS.2).mono ?_
          rintro e V1 ⟨x, y, rfl, hx, hy, hs', hc⟩
          go_wp2_with fail
          have hS' : SC wr B V1 := ⟨hS.1.trans hc, hs'⟩
          have zcV1 := hc.size
          refine hK.out _ _ hS' (fun hHeld => ?_)
          clear hK K
          (try simp only [Act.put, Ord.a, Ord.b, Ord.c])
          replace hS := hS'
          clear hS' hc hs'
          refine wpAnyH_ready (rs := [9, 15]) (by kernel_rfl) (by simp) ?_
          refine (AllReadyH.cons rfl (fun K hK => ?_) (AllReadyH.cons rfl (fun K hK => ?_) AllReadyH.nil))
          · go_simp
            go_at_call 68
            refine (next_pos B _ _ hS.2 (by omega)).mono ?_
            rintro e V2 ⟨r, rfl, r0, r1, hs', hc⟩
            go_wp2_with fail
            have hS' : SC wr B V2 := ⟨hS.1.trans hc, hs'⟩
            have zcV2 := hc.size
            refine hK.out _ _ hS' (fun hHeld => ?_)
            clear hK K
            (try simp only [Act.put, Ord.a, Ord.b, Ord.c])
            replace hS := hS'
            clear hS' hc hs'
            refine Ord.K 10 33 ?_
            refine wpAnyH_ready (rs := [12, 15]) (by kernel_rfl) (by simp) ?_
            refine (AllReadyH.cons rfl (fun K hK => ?_) (AllReadyH.cons rfl (fun K hK => ?_) AllReadyH.nil))
            · go_simp
              go_at_call 68
              refine (next_pos B _ _ hS.2 (by omega)).mono ?_
              rintro e V3 ⟨q, rfl, q0, q1, hs', hc⟩
              go_wp2_with fail
              have hS' : SC wr B V3 := ⟨hS.1.trans hc, hs'⟩
              have zcV3 := hc.size
              refine hK.out _ _ hS' (fun hHeld => ?_)
              clear hK K
              (try simp only [Act.put, Ord.a, Ord.b, Ord.c])
              replace hS := hS'
              clear hS' hc hs'
              refine Ord.K 13 36 ?_; refine Ord.K 14 37 ?_
              refine wpAnyH_ready (rs := [15]) (by kernel_rfl) (by simp) ?_
              refine (AllReadyH.cons rfl (fun K hK => ?_) AllReadyH.nil)
              · go_simp
                have hS' : SC wr B (V3.alloc (.cells #[.string ⟨#[]⟩, .int .i64 0, .int .i64 0, .int .i64 0, .int .i64 0] 145)) := hS.alloc _
                refine hK.out _ _ hS' (fun hHeld => ?_)
                clear hK K
                (try simp only [Act.put, Ord.a, Ord.b, Ord.c])
                have PB := Box.new (w := V3) (n := V3.heap.size) (vs := [.string ⟨#[]⟩, .int .i64 0, .int .i64 0, .int .i64 0, .int .i64 0]) (t := 145) rfl
                have zV3 := SC.size hS
                have lV3 := SC.lt hS
                have yV3 : V3.heap.size < (V3.alloc (.cells #[.string ⟨#[]⟩, .int .i64 0, .int .i64 0, .int .i64 0, .int .i64 0] 145)).heap.size := by simp
                generalize V3.alloc (.cells #[.string ⟨#[]⟩, .int .i64 0, .int .i64 0, .int .i64 0, .int .i64 0] 145) = V4 at *
                replace hS := hS'
                clear hS'
                refine wpAnyH_ready (rs := [16]) (by kernel_rfl) (by simp) ?_
                refine (AllReadyH.cons rfl (fun K hK => ?_) AllReadyH.nil)
                have k0 := PB 0 _ rfl
                have k1 := PB 1 _ rfl
                have k2 := PB 2 _ rfl
                have k3 := PB 3 _ rfl
                have k4 := PB 4 _ rfl
                obtain ⟨k0, f0⟩ := k0
                obtain ⟨k1, f1⟩ := k1
                obtain ⟨k2, f2⟩ := k2
                obtain ⟨k3, f3⟩ := k3
                obtain ⟨k4, f4⟩ := k4
                go_simp
                have hS' : SC wr B (set5 V4 V3.heap.size (.string (nmS n)) (.int .i64 x) (.int .i64 y) (.int .i64 (IntKind.i64.wrap (1 + r))) (.int .i64 (IntKind.i64.wrap (1 + q)))) := SC.set5 hS (by omega) (by omega) _ _ _ _ _
                refine hK.out _ _ hS' (fun hHeld => ?_)
                clear hK K
                (try simp only [Act.put, Ord.a, Ord.b, Ord.c])
                refine wpAnyH_done (by kernel_rfl) ?_ _
                go_wp2_with fail
                go_meet
                exact ⟨⟨_, ⟨nmS n, x, y, IntKind.i64.wrap (1 + r), IntKind.i64.wrap (1 + q)⟩, rfl, by omega, nm_size n, Box.set5c PB _ _ _ _ _⟩, hS'⟩
            · go_simp
              have hS' : SC wr B (V2.alloc (.cells #[.string ⟨#[]⟩, .int .i64 0, .int .i64 0, .int .i64 0, .int .i64 0] 145)) := hS.alloc _
              refine hK.out _ _ hS' (fun hHeld => ?_)
              clear hK K
              (try simp only [Act.put, Ord.a, Ord.b, Ord.c])
              have PB := Box.new (w := V2) (n := V2.heap.size) (vs := [.string ⟨#[]⟩, .int .i64 0, .int .i64 0, .int .i64 0, .int .i64 0]) (t := 145) rfl
              have zV2 := SC.size hS
              have lV2 := SC.lt hS
              have yV2 : V2.heap.size < (V2.alloc (.cells #[.string ⟨#[]⟩, .int .i64 0, .int .i64 0, .int .i64 0, .int .i64 0] 145)).heap.size := by simp
              generalize V2.alloc (.cells #[.string ⟨#[]⟩, .int .i64 0, .int .i64 0, .int .i64 0, .int .i64 0] 145) = V3 at *
              replace hS := hS'
              clear hS'
              refine wpAnyH_ready (rs := [12]) (by kernel_rfl) (by simp) ?_
              refine (AllReadyH.cons rfl (fun K hK => ?_) AllReadyH.nil)
              · go_simp
                go_at_call 68
                refine (next_pos B _ _ hS.2 (by omega)).mono ?_
                rintro e V4 ⟨q, rfl, q0, q1, hs', hc⟩
                go_wp2_with fail
                have hS' : SC wr B V4 := ⟨hS.1.trans hc, hs'⟩
                have zcV4 := hc.size
                refine hK.out _ _ hS' (fun hHeld => ?_)
                clear hK K
                (try simp only [Act.put, Ord.a, Ord.b, Ord.c])
                replace PB := Box.chg PB hc (by omega)
                replace hS := hS'
                clear hS' hc hs'
                refine Ord.K 13 36 ?_; refine Ord.K 14 37 ?_
                refine wpAnyH_ready (rs := [16]) (by kernel_rfl) (by simp) ?_
                refine (AllReadyH.cons rfl (fun K hK => ?_) AllReadyH.nil)
                have k0 := PB 0 _ rfl
                have k1 := PB 1 _ rfl
                have k2 := PB 2 _ rfl
                have k3 := PB 3 _ rfl
                have k4 := PB 4 _ rfl
                obtain ⟨k0, f0⟩ := k0
                obtain ⟨k1, f1⟩ := k1
                obtain ⟨k2, f2⟩ := k2
                obtain ⟨k3, f3⟩ := k3
                obtain ⟨k4, f4⟩ := k4
                go_simp
                have hS' : SC wr B (set5 V4 V2.heap.size (.string (nmS n)) (.int .i64 x) (.int .i64 y) (.int .i64 (IntKind.i64.wrap (1 + r))) (.int .i64 (IntKind.i64.wrap (1 + q)))) := SC.set5 hS (by omega) (by omega) _ _ _ _ _
                refine hK.out _ _ hS' (fun hHeld => ?_)
                clear hK K
                (try simp only [Act.put, Ord.a, Ord.b, Ord.c])
                refine wpAnyH_done (by kernel_rfl) ?_ _
                go_wp2_with fail
                go_meet
                exact ⟨⟨_, ⟨nmS n, x, y, IntKind.i64.wrap (1 + r), IntKind.i64.wrap (1 + q)⟩, rfl, by omega, nm_size n, Box.set5c PB _ _ _ _ _⟩, hS'⟩
          · go_simp
            have hS' : SC wr B (V1.alloc (.cells #[.string ⟨#[]⟩, .int .i64 0, .int .i64 0, .int .i64 0, .int .i64 0] 145)) := hS.alloc _
            refine hK.out _ _ hS' (fun hHeld => ?_)
            clear hK K
            (try simp only [Act.put, Ord.a, Ord.b, Ord.c])
            have PB := Box.new (w := V1) (n := V1.heap.size) (vs := [.string ⟨#[]⟩, .int .i64 0, .int .i64 0, .int .i64 0, .int .i64 0]) (t := 145) rfl
            have zV1 := SC.size hS
            have lV1 := SC.lt hS
            have yV1 : V1.heap.size < (V1.alloc (.cells #[.string ⟨#[]⟩, .int .i64 0, .int .i64 0, .int .i64 0, .int .i64 0] 145)).heap.size := by simp
            generalize V1.alloc (.cells #[.string ⟨#[]⟩, .int .i64 0, .int .i64 0, .int .i64 0, .int .i64 0] 145) = V2 at *
            replace hS := hS'
            clear hS'
            refine wpAnyH_ready (rs := [9]) (by kernel_rfl) (by simp) ?_
            refine (AllReadyH.cons rfl (fun K hK => ?_) AllReadyH.nil)
            · go_simp
              go_at_call 68
              refine (next_pos B _ _ hS.2 (by omega)).mono ?_
              rintro e V3 ⟨r, rfl, r0, r1, hs', hc⟩
              go_wp2_with fail
              have hS' : SC wr B V3 := ⟨hS.1.trans hc, hs'⟩
              have zcV3 := hc.size
              refine hK.out _ _ hS' (fun hHeld => ?_)
              clear hK K
              (try simp only [Act.put, Ord.a, Ord.b, Ord.c])
              replace PB := Box.chg PB hc (by omega)
              replace hS := hS'
              clear hS' hc hs'
              refine Ord.K 10 33 ?_
              refine wpAnyH_ready (rs := [12]) (by kernel_rfl) (by simp) ?_
              refine (AllReadyH.cons rfl (fun K hK => ?_) AllReadyH.nil)
              · go_simp
                go_at_call 68
                refine (next_pos B _ _ hS.2 (by omega)).mono ?_
                rintro e V4 ⟨q, rfl, q0, q1, hs', hc⟩
                go_wp2_with fail
                have hS' : SC wr B V4 := ⟨hS.1.trans hc, hs'⟩
                have zcV4 := hc.size
                refine hK.out _ _ hS' (fun hHeld => ?_)
                clear hK K
                (try simp only [Act.put, Ord.a, Ord.b, Ord.c])
                replace PB := Box.chg PB hc (by omega)
                replace hS := hS'
                clear hS' hc hs'
                refine Ord.K 13 36 ?_; refine Ord.K 14 37 ?_
                refine wpAnyH_ready (rs := [16]) (by kernel_rfl) (by simp) ?_
                refine (AllReadyH.cons rfl (fun K hK => ?_) AllReadyH.nil)
                have k0 := PB 0 _ rfl
                have k1 := PB 1 _ rfl
                have k2 := PB 2 _ rfl
                have k3 := PB 3 _ rfl
                have k4 := PB 4 _ rfl
                obtain ⟨k0, f0⟩ := k0
                obtain ⟨k1, f1⟩ := k1
                obtain ⟨k2, f2⟩ := k2
                obtain ⟨k3, f3⟩ := k3
                obtain ⟨k4, f4⟩ := k4
                go_simp
                have hS' : SC wr B (set5 V4 V1.heap.size (.string (nmS n)) (.int .i64 x) (.int .i64 y) (.int .i64 (IntKind.i64.wrap (1 + r))) (.int .i64 (IntKind.i64.wrap (1 + q)))) := SC.set5 hS (by omega) (by omega) _ _ _ _ _
                refine hK.out _ _ hS' (fun hHeld => ?_)
                clear hK K
                (try simp only [Act.put, Ord.a, Ord.b, Ord.c])
                refine wpAnyH_done (by kernel_rfl) ?_ _
                go_wp2_with fail
                go_meet
                exact ⟨⟨_, ⟨nmS n, x, y, IntKind.i64.wrap (1 + r), IntKind.i64.wrap (1 + q)⟩, rfl, by omega, nm_size n, Box.set5c PB _ _ _ _ _⟩, hS'⟩
        · go_simp
          have hS' : SC wr B (V0.alloc (.cells #[.string ⟨#[]⟩, .int .i64 0, .int .i64 0, .int .i64 0, .int .i64 0] 145)) := hS.alloc _
          refine hK.out _ _ hS' (fun hHeld => ?_)
          clear hK K
          (try simp only [Act.put, Ord.a, Ord.b, Ord.c])
          have PB := Box.new (w := V0) (n := V0.heap.size) (vs := [.string ⟨#[]⟩, .int .i64 0, .int .i64 0, .int .i64 0, .int .i64 0]) (t := 145) rfl
          have zV0 := SC.size hS
          have lV0 := SC.lt hS
          have yV0 : V0.heap.size < (V0.alloc (.cells #[.string ⟨#[]⟩, .int .i64 0, .int .i64 0, .int .i64 0, .int .i64 0] 145)).heap.size := by simp
          generalize V0.alloc (.cells #[.string ⟨#[]⟩, .int .i64 0, .int .i64 0, .int .i64 0, .int .i64 0] 145) = V1 at *
          replace hS := hS'
          clear hS'
          refine wpAnyH_ready (rs := [7]) (by kernel_rfl) (by simp) ?_
          refine (AllReadyH.cons rfl (fun K hK => ?_) AllReadyH.nil)
          · go_simp
            go_at_call 127
            refine (drawPoint_any B _ hS.2).mono ?_
            rintro e V2 ⟨x, y, rfl, hx, hy, hs', hc⟩
            go_wp2_with fail
            have hS' : SC wr B V2 := ⟨hS.1.trans hc, hs'⟩
            have zcV2 := hc.size
            refine hK.out _ _ hS' (fun hHeld => ?_)
            clear hK K
            (try simp only [Act.put, Ord.a, Ord.b, Ord.c])
            replace PB := Box.chg PB hc (by omega)
            replace hS := hS'
            clear hS' hc hs'
            refine wpAnyH_ready (rs := [9]) (by kernel_rfl) (by simp) ?_
            refine (AllReadyH.cons rfl (fun K hK => ?_) AllReadyH.nil)
            · go_simp
              go_at_call 68
              refine (next_pos B _ _ hS.2 (by omega)).mono ?_
              rintro e V3 ⟨r, rfl, r0, r1, hs', hc⟩
              go_wp2_with fail
              have hS' : SC wr B V3 := ⟨hS.1.trans hc, hs'⟩
              have zcV3 := hc.size
              refine hK.out _ _ hS' (fun hHeld => ?_)
              clear hK K
              (try simp only [Act.put, Ord.a, Ord.b, Ord.c])
              replace PB := Box.chg PB hc (by omega)
              replace hS := hS'
              clear hS' hc hs'
              refine Ord.K 10 33 ?_
              refine wpAnyH_ready (rs := [12]) (by kernel_rfl) (by simp) ?_
              refine (AllReadyH.cons rfl (fun K hK => ?_) AllReadyH.nil)
              · go_simp
                go_at_call 68
                refine (next_pos B _ _ hS.2 (by omega)).mono ?_
                rintro e V4 ⟨q, rfl, q0, q1, hs', hc⟩
                go_wp2_with fail
                have hS' : SC wr B V4 := ⟨hS.1.trans hc, hs'⟩
                have zcV4 := hc.size
                refine hK.out _ _ hS' (fun hHeld => ?_)
                clear hK K
                (try simp only [Act.put, Ord.a, Ord.b, Ord.c])
                replace PB := Box.chg PB hc (by omega)
                replace hS := hS'
                clear hS' hc hs'
                refine Ord.K 13 36 ?_; refine Ord.K 14 37 ?_
                refine wpAnyH_ready (rs := [16]) (by kernel_rfl) (by simp) ?_
                refine (AllReadyH.cons rfl (fun K hK => ?_) AllReadyH.nil)
                have k0 := PB 0 _ rfl
                have k1 := PB 1 _ rfl
                have k2 := PB 2 _ rfl
                have k3 := PB 3 _ rfl
                have k4 := PB 4 _ rfl
                obtain ⟨k0, f0⟩ := k0
                obtain ⟨k1, f1⟩ := k1
                obtain ⟨k2, f2⟩ := k2
                obtain ⟨k3, f3⟩ := k3
                obtain ⟨k4, f4⟩ := k4
                go_simp
                have hS' : SC wr B (set5 V4 V0.heap.size (.string (nmS n)) (.int .i64 x) (.int .i64 y) (.int .i64 (IntKind.i64.wrap (1 + r))) (.int .i64 (IntKind.i64.wrap (1 + q)))) := SC.set5 hS (by omega) (by omega) _ _ _ _ _
                refine hK.out _ _ hS' (fun hHeld => ?_)
                clear hK K
                (try simp only [Act.put, Ord.a, Ord.b, Ord.c])
                refine wpAnyH_done (by kernel_rfl) ?_ _
                go_wp2_with fail
                go_meet
                exact ⟨⟨_, ⟨nmS n, x, y, IntKind.i64.wrap (1 + r), IntKind.i64.wrap (1 + q)⟩, rfl, by omega, nm_size n, Box.set5c PB _ _ _ _ _⟩, hS'⟩
      case rest =>
        obtain ⟨⟨PP, m, rfl, hPP, hmn, hPB⟩, hS5⟩ := hcut
        obtain ⟨w5, rfl⟩ : ∃ w5 : World, w5 = wc := ⟨_, rfl⟩
        have HC5 := Lib.hid (HCb.out.chg hS5.1 nC)
        have HN5 := Lib.hid (HNb.out.chg hS5.1 nN)
        have HR5 := Lib.hid (HRb.out.chg hS5.1 nR)
        have HO5 := Lib.hid (HO.out.chg hS5.1 (HO.out.block (by omega)))
        have HS5 := Lib.hid (HSC.out.trans hS5)
        have z5 := hS5.size
        have hl1 : (ms ++ [m]).length = n + 1 := by have := Hn.out; simp; omega
        have HFit' := Lib.hid (fit_snoc HFit.out hmn)
        have HFm := Lib.hid (show (ms ++ [m]).length ≤ maxLen ∧ Fit (ms ++ [m]) from ⟨by rw [hl1]; unfold maxLen; omega, HFit'.out⟩)
        obtain ⟨ao', cap', hv', hnone', hA'⟩ := HO5.out.src
        rw [← Hn.out] at hv'
        cases hv'
        have HA := Lib.hid hA'
        clear hA' hnone' HA0 eC eN hS0 HCb HNb HRb HO HSC
        have eK : ∀ w', Ext w5 w' → w'.cell? ⟨C, 8, none⟩ = some (.slice ao n cap) := fun w' h => h.cellOf (by rw [Hn.out]; exact (HC5.out 8 _ rfl).1)
        have eK0 : ∀ w', Ext w5 w' → w'.cell? ⟨C, 0, none⟩ = some (.int .i64 l.a) := fun w' h => h.cellOf (HC5.out 0 _ rfl).1
        have eK1 : ∀ w', Ext w5 w' → w'.cell? ⟨C, 1, none⟩ = some (.int .i64 l.b) := fun w' h => h.cellOf (HC5.out 1 _ rfl).1
        have eK2 : ∀ w', Ext w5 w' → w'.cell? ⟨C, 2, none⟩ = some (.int .i64 l.c) := fun w' h => h.cellOf (HC5.out 2 _ rfl).1
        have eK3 : ∀ w', Ext w5 w' → w'.cell? ⟨C, 3, none⟩ = some (.int .i64 l.d) := fun w' h => h.cellOf (HC5.out 3 _ rfl).1
        have eK4 : ∀ w', Ext w5 w' → w'.cell? ⟨C, 4, none⟩ = some (.int .i64 k.a) := fun w' h => h.cellOf (HC5.out 4 _ rfl).1
        have eK5 : ∀ w', Ext w5 w' → w'.cell? ⟨C, 5, none⟩ = some (.int .i64 k.b) := fun w' h => h.cellOf (HC5.out 5 _ rfl).1
        have eK6 : ∀ w', Ext w5 w' → w'.cell? ⟨C, 6, none⟩ = some (.int .i64 k.c) := fun w' h => h.cellOf (HC5.out 6 _ rfl).1
        have eK7 : ∀ w', Ext w5 w' → w'.cell? ⟨C, 7, none⟩ = some (.int .i64 k.d) := fun w' h => h.cellOf (HC5.out 7 _ rfl).1
        have eP0 : ∀ w', Ext w5 w' → w'.cell? ⟨PP, 0, none⟩ = some (.string m.n) := fun w' h => h.cellOf (hPB 0 _ rfl).1
        have eP1 : ∀ w', Ext w5 w' → w'.cell? ⟨PP, 1, none⟩ = some (.int .i64 m.x) := fun w' h => h.cellOf (hPB 1 _ rfl).1
        have eP2 : ∀ w', Ext w5 w' → w'.cell? ⟨PP, 2, none⟩ = some (.int .i64 m.y) := fun w' h => h.cellOf (hPB 2 _ rfl).1
        have eP3 : ∀ w', Ext w5 w' → w'.cell? ⟨PP, 3, none⟩ = some (.int .i64 m.s) := fun w' h => h.cellOf (hPB 3 _ rfl).1
        have eP4 : ∀ w', Ext w5 w' → w'.cell? ⟨PP, 4, none⟩ = some (.int .i64 m.z) := fun w' h => h.cellOf (hPB 4 _ rfl).1
        clear hPB hS5
        go_upto_region 7 with fail
        go_cut [7] from 19 to 52 (fun s wx => ∃ (Q : Nat) (a1 : Option Addr) (cap1 : Nat), s = .pointer (some ⟨Q, 0, none⟩) ∧ Box wx Q (cellsC l k (.slice a1 (n + 1) cap1)) ∧ OwnM wx (N + 1) (.slice a1 (n + 1) cap1) (ms ++ [m]) ∧ (Value.slice a1 (n + 1) cap1).ownBlock ≠ some Q ∧ w5.heap.size ≤ Q ∧ Ext w5 wx)
        case first =>
          have P1 := Lib.hid (cellsM_one ms)
          have P2 := Lib.hid (cellsM_len ms)
          rw [← Hn.out] at P2
          replace hnone := Lib.hid hnone
          replace HFit := HFm
          have zR : N + 1 ≤ w5.heap.size := by omega
          refine wp_region_held_drew (S := fun w' => Ext w5 w') (by kernel_rfl) (by (try dsimp only); exact (Ext.refl _).drew) (fun hHeld => ?_)
          refine Ord.K 0 38 ?_; refine Ord.K 1 39 ?_; refine Ord.K 2 40 ?_; refine Ord.K 3 41 ?_; refine Ord.K 5 43 ?_; refine Ord.K 6 44 ?_; refine Ord.K 8 46 ?_
          have hE : Ext w5 w5.drew := (Ext.refl w5).drew
          obtain ⟨V0, hV0⟩ : ∃ V0, V0 = w5.drew := ⟨_, rfl⟩
          rw [← hV0] at hE hHeld ⊢
          clear hV0 eK eK0 eK1 eK2 eK3 eK4 eK5 eK6 eK7 eP0 eP1 eP2 eP3 eP4
          have zV0 := Ext.size hE
          refine wpAnyH_ready (rs := [4, 9, 12]) (by kernel_rfl) (by simp) ?_
          refine (AllReadyH.cons rfl (fun K hK => ?_) (AllReadyH.cons rfl (fun K hK => ?_) (AllReadyH.cons rfl (fun K hK => ?_) AllReadyH.nil)))
          · go_simp
            have hE' : Ext w5 (V0.alloc (.cells #[] 145)) := hE.alloc _
            refine hK.out _ _ hE' (fun hHeld => ?_)
            clear hK K
            (try simp only [Act.put, Ord.a, Ord.b, Ord.c])
            have O1 : (V0.alloc (.cells #[] 145)).ownsRow V0.heap.size 145 5 (.slice (some ⟨V0.heap.size, 0, none⟩) 0 0) 0 [] := World.ownsRow_lit (base := V0.heap.size) (e := 145) (size := 5) V0 #[] 0 (Nat.le_refl _) (by unfold maxLen; omega) rfl
            have yV0 : V0.heap.size < (V0.alloc (.cells #[] 145)).heap.size := by simp
            have zV0 := Ext.size hE
            generalize V0.alloc (.cells #[] 145) = V1 at *
            replace hE := hE'
            clear hE'
            have zV1 := Ext.size hE
            refine wpAnyH_ready (rs := [7, 9, 12]) (by kernel_rfl) (by simp) ?_
            refine (AllReadyH.cons rfl (fun K hK => ?_) (AllReadyH.cons rfl (fun K hK => ?_) (AllReadyH.cons rfl (fun K hK => ?_) AllReadyH.nil)))
            · refine step_append_at rfl (.tmp 42) (.tmp 44) 28 rfl V0.heap.size 145 ti (.agg zeroM) 5 48 Tryz.underlying28 hin hz0 hz1 hz2 rfl (by decide) (.slice (some ⟨V0.heap.size, 0, none⟩) 0 0) 0 [] (by simp [Act.eval, Act.put]) O1 ao n cap (cellsM ms) (by simp [Act.eval, Act.put]) hnone.out P2.out (fun ad h j u hu => hE.cellOf (HA.out ad h j u hu)) P1.out (by unfold maxLen; omega) (by omega) (by omega) ?_
              intro v1 V2 hown hgrow hat
              have zG := hgrow.size
              have hE' : Ext w5 V2 := row_grown (w0 := w5) O1 hgrow (by omega) hE
              have OV := Lib.hid (show V2.ownsRow V0.heap.size 145 5 v1 n (cellsM ms) by simpa using hown)
              clear hown O1 hat hgrow
              refine hK.out _ _ hE' (fun hHeld => ?_)
              clear hK K
              (try simp only [Act.put, Ord.a, Ord.b, Ord.c])
              replace hE := hE'
              clear hE'
              have zV2 := Ext.size hE
              refine wpAnyH_ready (rs := [9, 12]) (by kernel_rfl) (by simp) ?_
              refine (AllReadyH.cons rfl (fun K hK => ?_) (AllReadyH.cons rfl (fun K hK => ?_) AllReadyH.nil))
              · go_simp
                have hE' : Ext w5 (V2.alloc (.cells #[.string m.n, .int .i64 m.x, .int .i64 m.y, .int .i64 m.s, .int .i64 m.z] 145)) := hE.alloc _
                refine hK.out _ _ hE' (fun hHeld => ?_)
                clear hK K
                (try simp only [Act.put, Ord.a, Ord.b, Ord.c])
                replace OV := Lib.hid (row_ext OV.out ((Ext.refl V2).alloc (.cells #[.string m.n, .int .i64 m.x, .int .i64 m.y, .int .i64 m.s, .int .i64 m.z] 145)))
                have E1 := Box.new (w := V2) (n := V2.heap.size) (vs := [.string m.n, .int .i64 m.x, .int .i64 m.y, .int .i64 m.s, .int .i64 m.z]) (t := 145) rfl
                have yV2 : V2.heap.size < (V2.alloc (.cells #[.string m.n, .int .i64 m.x, .int .i64 m.y, .int .i64 m.s, .int .i64 m.z] 145)).heap.size := by simp
                have zV2 := Ext.size hE
                generalize V2.alloc (.cells #[.string m.n, .int .i64 m.x, .int .i64 m.y, .int .i64 m.s, .int .i64 m.z] 145) = V3 at *
                replace hE := hE'
                clear hE'
                have zV3 := Ext.size hE
                refine wpAnyH_ready (rs := [10, 12]) (by kernel_rfl) (by simp) ?_
                refine (AllReadyH.cons rfl (fun K hK => ?_) (AllReadyH.cons rfl (fun K hK => ?_) AllReadyH.nil))
                · refine step_append_at rfl (.tmp 45) (.tmp 47) 28 rfl V0.heap.size 145 ti (.agg zeroM) 5 48 Tryz.underlying28 hin hz0 hz1 hz2 rfl (by decide) v1 n (cellsM ms) (by simp [Act.eval, Act.put]) OV.out (some ⟨V2.heap.size, 0, none⟩) 1 1 [.string m.n, .int .i64 m.x, .int .i64 m.y, .int .i64 m.s, .int .i64 m.z] (by simp [Act.eval, Act.put]) (fun h => by cases h) rfl (fun ad h j u hu => by cases h; exact box_at E1 j u hu) (ones9 m) (by unfold maxLen; omega) (by omega) (by omega) ?_
                  intro v2 V4 hown hgrow hat
                  have zG := hgrow.size
                  have hE' : Ext w5 V4 := row_grown (w0 := w5) OV.out hgrow (by omega) hE
                  have OW0 : OwnM V4 (N + 1) v2 (ms ++ [m]) := row_mono (own_snoc (show V4.ownsRow V0.heap.size 145 5 v2 (ms.length + 1) (cellsM ms ++ [.string m.n, .int .i64 m.x, .int .i64 m.y, .int .i64 m.s, .int .i64 m.z]) by rw [← Hn.out]; exact hown)) (by omega)
                  obtain ⟨a1, cap1, rfl, -⟩ := OW0.mks HFit.out
                  rw [hl1] at OW0 ⊢
                  have OW := Lib.hid OW0
                  clear hown OV hat hgrow E1 OW0
                  refine hK.out _ _ hE' (fun hHeld => ?_)
                  clear hK K
                  (try simp only [Act.put, Ord.a, Ord.b, Ord.c])
                  replace hE := hE'
                  clear hE'
                  have zV4 := Ext.size hE
                  refine Ord.K 11 49 ?_
                  refine wpAnyH_ready (rs := [12]) (by kernel_rfl) (by simp) ?_
                  refine (AllReadyH.cons rfl (fun K hK => ?_) AllReadyH.nil)
                  · go_simp
                    have hE' : Ext w5 (V4.alloc (.cells (cellsC zeroL zeroL (.slice none 0 0)).toArray 30)) := hE.alloc _
                    refine hK.out _ _ hE' (fun hHeld => ?_)
                    clear hK K
                    (try simp only [Act.put, Ord.a, Ord.b, Ord.c])
                    replace OW := Lib.hid (OW.out.ext ((Ext.refl V4).alloc (.cells (cellsC zeroL zeroL (.slice none 0 0)).toArray 30)))
                    have PB := Box.new (w := V4) (n := V4.heap.size) (vs := cellsC zeroL zeroL (.slice none 0 0)) (t := 30) rfl
                    have yV4 : V4.heap.size < (V4.alloc (.cells (cellsC zeroL zeroL (.slice none 0 0)).toArray 30)).heap.size := by simp
                    have zV4 := Ext.size hE
                    generalize V4.alloc (.cells (cellsC zeroL zeroL (.slice none 0 0)).toArray 30) = V5 at *
                    replace hE := hE'
                    clear hE'
                    have zV5 := Ext.size hE
                    refine wpAnyH_ready (rs := [13]) (by kernel_rfl) (by simp) ?_
                    refine (AllReadyH.cons rfl (fun K hK => ?_) AllReadyH.nil)
                    obtain ⟨⟨u0, u1, u2, u3, u4, u5, u6, u7, u8⟩, g0, g1, g2, g3, g4, g5, g6, g7, g8⟩ := Box.nine PB
                    have NB := OwnM.apart OW.out (by simp) u0
                    go_simp
                    have hE' : Ext w5 (Crs.put9 V5 V4.heap.size (.int .i64 l.a) (.int .i64 l.b) (.int .i64 l.c) (.int .i64 l.d) (.int .i64 k.a) (.int .i64 k.b) (.int .i64 k.c) (.int .i64 k.d) (.slice a1 (n + 1) cap1)) := Ext.put9 hE (by omega) (.int .i64 l.a) (.int .i64 l.b) (.int .i64 l.c) (.int .i64 l.d) (.int .i64 k.a) (.int .i64 k.b) (.int .i64 k.c) (.int .i64 k.d) (.slice a1 (n + 1) cap1)
                    refine hK.out _ _ hE' (fun hHeld => ?_)
                    clear hK K
                    (try simp only [Act.put, Ord.a, Ord.b, Ord.c])
                    have QB := Box.put9 PB (.int .i64 l.a) (.int .i64 l.b) (.int .i64 l.c) (.int .i64 l.d) (.int .i64 k.a) (.int .i64 k.b) (.int .i64 k.c) (.int .i64 k.d) (.slice a1 (n + 1) cap1)
                    have QO := OW.out.chg (Chg.put9 (n := V4.heap.size) (.int .i64 l.a) (.int .i64 l.b) (.int .i64 l.c) (.int .i64 l.d) (.int .i64 k.a) (.int .i64 k.b) (.int .i64 k.c) (.int .i64 k.d) (.slice a1 (n + 1) cap1)) NB
                    refine wpAnyH_done (by kernel_rfl) ?_ _
                    go_wp2_with fail
                    go_meet
                    exact ⟨_, a1, cap1, rfl, QB, QO, NB, by omega, hE'⟩
                · go_simp
                  have hE' : Ext w5 (V3.alloc (.cells (cellsC zeroL zeroL (.slice none 0 0)).toArray 30)) := hE.alloc _
                  refine hK.out _ _ hE' (fun hHeld => ?_)
                  clear hK K
                  (try simp only [Act.put, Ord.a, Ord.b, Ord.c])
                  have NV : v1.ownBlock ≠ some V3.heap.size := fun e => absurd (World.ownsRow.lt OV.out _ e).2 (by omega)
                  replace OV := Lib.hid (row_ext OV.out ((Ext.refl V3).alloc (.cells (cellsC zeroL zeroL (.slice none 0 0)).toArray 30)))
                  replace E1 := Box.alloc E1 (.cells (cellsC zeroL zeroL (.slice none 0 0)).toArray 30)
                  have PB := Box.new (w := V3) (n := V3.heap.size) (vs := cellsC zeroL zeroL (.slice none 0 0)) (t := 30) rfl
                  have yV3 : V3.heap.size < (V3.alloc (.cells (cellsC zeroL zeroL (.slice none 0 0)).toArray 30)).heap.size := by simp
                  have zV3 := Ext.size hE
                  generalize V3.alloc (.cells (cellsC zeroL zeroL (.slice none 0 0)).toArray 30) = V4 at *
                  replace hE := hE'
                  clear hE'
                  have zV4 := Ext.size hE
                  refine wpAnyH_ready (rs := [10]) (by kernel_rfl) (by simp) ?_
                  refine (AllReadyH.cons rfl (fun K hK => ?_) AllReadyH.nil)
                  · refine step_append_at rfl (.tmp 45) (.tmp 47) 28 rfl V0.heap.size 145 ti (.agg zeroM) 5 48 Tryz.underlying28 hin hz0 hz1 hz2 rfl (by decide) v1 n (cellsM ms) (by simp [Act.eval, Act.put]) OV.out (some ⟨V2.heap.size, 0, none⟩) 1 1 [.string m.n, .int .i64 m.x, .int .i64 m.y, .int .i64 m.s, .int .i64 m.z] (by simp [Act.eval, Act.put]) (fun h => by cases h) rfl (fun ad h j u hu => by cases h; exact box_at E1 j u hu) (ones9 m) (by unfold maxLen; omega) (by omega) (by omega) ?_
                    intro v2 V5 hown hgrow hat
                    have zG := hgrow.size
                    have hE' : Ext w5 V5 := row_grown (w0 := w5) OV.out hgrow (by omega) hE
                    have OW0 : OwnM V5 (N + 1) v2 (ms ++ [m]) := row_mono (own_snoc (show V5.ownsRow V0.heap.size 145 5 v2 (ms.length + 1) (cellsM ms ++ [.string m.n, .int .i64 m.x, .int .i64 m.y, .int .i64 m.s, .int .i64 m.z]) by rw [← Hn.out]; exact hown)) (by omega)
                    replace PB := box_grown9 PB hgrow NV
                    obtain ⟨a1, cap1, rfl, -⟩ := OW0.mks HFit.out
                    rw [hl1] at OW0 ⊢
                    have OW := Lib.hid OW0
                    clear hown OV hat hgrow E1 OW0
                    refine hK.out _ _ hE' (fun hHeld => ?_)
                    clear hK K
                    (try simp only [Act.put, Ord.a, Ord.b, Ord.c])
                    replace hE := hE'
                    clear hE'
                    have zV5 := Ext.size hE
                    refine Ord.K 11 49 ?_
                    refine wpAnyH_ready (rs := [13]) (by kernel_rfl) (by simp) ?_
                    refine (AllReadyH.cons rfl (fun K hK => ?_) AllReadyH.nil)
                    obtain ⟨⟨u0, u1, u2, u3, u4, u5, u6, u7, u8⟩, g0, g1, g2, g3, g4, g5, g6, g7, g8⟩ := Box.nine PB
                    have NB := OwnM.apart OW.out (by simp) u0
                    go_simp
                    have hE' : Ext w5 (Crs.put9 V5 V3.heap.size (.int .i64 l.a) (.int .i64 l.b) (.int .i64 l.c) (.int .i64 l.d) (.int .i64 k.a) (.int .i64 k.b) (.int .i64 k.c) (.int .i64 k.d) (.slice a1 (n + 1) cap1)) := Ext.put9 hE (by omega) (.int .i64 l.a) (.int .i64 l.b) (.int .i64 l.c) (.int .i64 l.d) (.int .i64 k.a) (.int .i64 k.b) (.int .i64 k.c) (.int .i64 k.d) (.slice a1 (n + 1) cap1)
                    refine hK.out _ _ hE' (fun hHeld => ?_)
                    clear hK K
                    (try simp only [Act.put, Ord.a, Ord.b, Ord.c])
                    have QB := Box.put9 PB (.int .i64 l.a) (.int .i64 l.b) (.int .i64 l.c) (.int .i64 l.d) (.int .i64 k.a) (.int .i64 k.b) (.int .i64 k.c) (.int .i64 k.d) (.slice a1 (n + 1) cap1)
                    have QO := OW.out.chg (Chg.put9 (n := V3.heap.size) (.int .i64 l.a) (.int .i64 l.b) (.int .i64 l.c) (.int .i64 l.d) (.int .i64 k.a) (.int .i64 k.b) (.int .i64 k.c) (.int .i64 k.d) (.slice a1 (n + 1) cap1)) NB
                    refine wpAnyH_done (by kernel_rfl) ?_ _
                    go_wp2_with fail
                    go_meet
                    exact ⟨_, a1, cap1, rfl, QB, QO, NB, by omega, hE'⟩
              · go_simp
                have hE' : Ext w5 (V2.alloc (.cells (cellsC zeroL zeroL (.slice none 0 0)).toArray 30)) := hE.alloc _
                refine hK.out _ _ hE' (fun hHeld => ?_)
                clear hK K
                (try simp only [Act.put, Ord.a, Ord.b, Ord.c])
                have NV : v1.ownBlock ≠ some V2.heap.size := fun e => absurd (World.ownsRow.lt OV.out _ e).2 (by omega)
                replace OV := Lib.hid (row_ext OV.out ((Ext.refl V2).alloc (.cells (cellsC zeroL zeroL (.slice none 0 0)).toArray 30)))
                have PB := Box.new (w := V2) (n := V2.heap.size) (vs := cellsC zeroL zeroL (.slice none 0 0)) (t := 30) rfl
                have yV2 : V2.heap.size < (V2.alloc (.cells (cellsC zeroL zeroL (.slice none 0 0)).toArray 30)).heap.size := by simp
                have zV2 := Ext.size hE
                generalize V2.alloc (.cells (cellsC zeroL zeroL (.slice none 0 0)).toArray 30) = V3 at *
                replace hE := hE'
                clear hE'
                have zV3 := Ext.size hE
                refine wpAnyH_ready (rs := [9]) (by kernel_rfl) (by simp) ?_
                refine (AllReadyH.cons rfl (fun K hK => ?_) AllReadyH.nil)
                · go_simp
                  have hE' : Ext w5 (V3.alloc (.cells #[.string m.n, .int .i64 m.x, .int .i64 m.y, .int .i64 m.s, .int .i64 m.z] 145)) := hE.alloc _
                  refine hK.out _ _ hE' (fun hHeld => ?_)
                  clear hK K
                  (try simp only [Act.put, Ord.a, Ord.b, Ord.c])
                  replace OV := Lib.hid (row_ext OV.out ((Ext.refl V3).alloc (.cells #[.string m.n, .int .i64 m.x, .int .i64 m.y, .int .i64 m.s, .int .i64 m.z] 145)))
                  replace PB := Box.alloc PB (.cells #[.string m.n, .int .i64 m.x, .int .i64 m.y, .int .i64 m.s, .int .i64 m.z] 145)
                  have E1 := Box.new (w := V3) (n := V3.heap.size) (vs := [.string m.n, .int .i64 m.x, .int .i64 m.y, .int .i64 m.s, .int .i64 m.z]) (t := 145) rfl
                  have yV3 : V3.heap.size < (V3.alloc (.cells #[.string m.n, .int .i64 m.x, .int .i64 m.y, .int .i64 m.s, .int .i64 m.z] 145)).heap.size := by simp
                  have zV3 := Ext.size hE
                  generalize V3.alloc (.cells #[.string m.n, .int .i64 m.x, .int .i64 m.y, .int .i64 m.s, .int .i64 m.z] 145) = V4 at *
                  replace hE := hE'
                  clear hE'
                  have zV4 := Ext.size hE
                  refine wpAnyH_ready (rs := [10]) (by kernel_rfl) (by simp) ?_
                  refine (AllReadyH.cons rfl (fun K hK => ?_) AllReadyH.nil)
                  · refine step_append_at rfl (.tmp 45) (.tmp 47) 28 rfl V0.heap.size 145 ti (.agg zeroM) 5 48 Tryz.underlying28 hin hz0 hz1 hz2 rfl (by decide) v1 n (cellsM ms) (by simp [Act.eval, Act.put]) OV.out (some ⟨V3.heap.size, 0, none⟩) 1 1 [.string m.n, .int .i64 m.x, .int .i64 m.y, .int .i64 m.s, .int .i64 m.z] (by simp [Act.eval, Act.put]) (fun h => by cases h) rfl (fun ad h j u hu => by cases h; exact box_at E1 j u hu) (ones9 m) (by unfold maxLen; omega) (by omega) (by omega) ?_
                    intro v2 V5 hown hgrow hat
                    have zG := hgrow.size
                    have hE' : Ext w5 V5 := row_grown (w0 := w5) OV.out hgrow (by omega) hE
                    have OW0 : OwnM V5 (N + 1) v2 (ms ++ [m]) := row_mono (own_snoc (show V5.ownsRow V0.heap.size 145 5 v2 (ms.length + 1) (cellsM ms ++ [.string m.n, .int .i64 m.x, .int .i64 m.y, .int .i64 m.s, .int .i64 m.z]) by rw [← Hn.out]; exact hown)) (by omega)
                    replace PB := box_grown9 PB hgrow NV
                    obtain ⟨a1, cap1, rfl, -⟩ := OW0.mks HFit.out
                    rw [hl1] at OW0 ⊢
                    have OW := Lib.hid OW0
                    clear hown OV hat hgrow E1 OW0
                    refine hK.out _ _ hE' (fun hHeld => ?_)
                    clear hK K
                    (try simp only [Act.put, Ord.a, Ord.b, Ord.c])
                    replace hE := hE'
                    clear hE'
                    have zV5 := Ext.size hE
                    refine Ord.K 11 49 ?_
                    refine wpAnyH_ready (rs := [13]) (by kernel_rfl) (by simp) ?_
                    refine (AllReadyH.cons rfl (fun K hK => ?_) AllReadyH.nil)
                    obtain ⟨⟨u0, u1, u2, u3, u4, u5, u6, u7, u8⟩, g0, g1, g2, g3, g4, g5, g6, g7, g8⟩ := Box.nine PB
                    have NB := OwnM.apart OW.out (by simp) u0
                    go_simp
                    have hE' : Ext w5 (Crs.put9 V5 V2.heap.size (.int .i64 l.a) (.int .i64 l.b) (.int .i64 l.c) (.int .i64 l.d) (.int .i64 k.a) (.int .i64 k.b) (.int .i64 k.c) (.int .i64 k.d) (.slice a1 (n + 1) cap1)) := Ext.put9 hE (by omega) (.int .i64 l.a) (.int .i64 l.b) (.int .i64 l.c) (.int .i64 l.d) (.int .i64 k.a) (.int .i64 k.b) (.int .i64 k.c) (.int .i64 k.d) (.slice a1 (n + 1) cap1)
                    refine hK.out _ _ hE' (fun hHeld => ?_)
                    clear hK K
                    (try simp only [Act.put, Ord.a, Ord.b, Ord.c])
                    have QB := Box.put9 PB (.int .i64 l.a) (.int .i64 l.b) (.int .i64 l.c) (.int .i64 l.d) (.int .i64 k.a) (.int .i64 k.b) (.int .i64 k.c) (.int .i64 k.d) (.slice a1 (n + 1) cap1)
                    have QO := OW.out.chg (Chg.put9 (n := V2.heap.size) (.int .i64 l.a) (.int .i64 l.b) (.int .i64 l.c) (.int .i64 l.d) (.int .i64 k.a) (.int .i64 k.b) (.int .i64 k.c) (.int .i64 k.d) (.slice a1 (n + 1) cap1)) NB
                    refine wpAnyH_done (by kernel_rfl) ?_ _
                    go_wp2_with fail
                    go_meet
                    exact ⟨_, a1, cap1, rfl, QB, QO, NB, by omega, hE'⟩
            · go_simp
              have hE' : Ext w5 (V1.alloc (.cells #[.string m.n, .int .i64 m.x, .int .i64 m.y, .int .i64 m.s, .int .i64 m.z] 145)) := hE.alloc _
              refine hK.out _ _ hE' (fun hHeld => ?_)
              clear hK K
              (try simp only [Act.put, Ord.a, Ord.b, Ord.c])
              replace O1 := row_ext O1 ((Ext.refl V1).alloc (.cells #[.string m.n, .int .i64 m.x, .int .i64 m.y, .int .i64 m.s, .int .i64 m.z] 145))
              have E1 := Box.new (w := V1) (n := V1.heap.size) (vs := [.string m.n, .int .i64 m.x, .int .i64 m.y, .int .i64 m.s, .int .i64 m.z]) (t := 145) rfl
              have yV1 : V1.heap.size < (V1.alloc (.cells #[.string m.n, .int .i64 m.x, .int .i64 m.y, .int .i64 m.s, .int .i64 m.z] 145)).heap.size := by simp
              have zV1 := Ext.size hE
              generalize V1.alloc (.cells #[.string m.n, .int .i64 m.x, .int .i64 m.y, .int .i64 m.s, .int .i64 m.z] 145) = V2 at *
              replace hE := hE'
              clear hE'
              have zV2 := Ext.size hE
              refine wpAnyH_ready (rs := [7, 12]) (by kernel_rfl) (by simp) ?_
              refine (AllReadyH.cons rfl (fun K hK => ?_) (AllReadyH.cons rfl (fun K hK => ?_) AllReadyH.nil))
              · refine step_append_at rfl (.tmp 42) (.tmp 44) 28 rfl V0.heap.size 145 ti (.agg zeroM) 5 48 Tryz.underlying28 hin hz0 hz1 hz2 rfl (by decide) (.slice (some ⟨V0.heap.size, 0, none⟩) 0 0) 0 [] (by simp [Act.eval, Act.put]) O1 ao n cap (cellsM ms) (by simp [Act.eval, Act.put]) hnone.out P2.out (fun ad h j u hu => hE.cellOf (HA.out ad h j u hu)) P1.out (by unfold maxLen; omega) (by omega) (by omega) ?_
                intro v1 V3 hown hgrow hat
                have zG := hgrow.size
                have hE' : Ext w5 V3 := row_grown (w0 := w5) O1 hgrow (by omega) hE
                have OV := Lib.hid (show V3.ownsRow V0.heap.size 145 5 v1 n (cellsM ms) by simpa using hown)
                replace E1 := box_grown9 E1 hgrow (by simp [Value.ownBlock]; omega)
                clear hown O1 hat hgrow
                refine hK.out _ _ hE' (fun hHeld => ?_)
                clear hK K
                (try simp only [Act.put, Ord.a, Ord.b, Ord.c])
                replace hE := hE'
                clear hE'
                have zV3 := Ext.size hE
                refine wpAnyH_ready (rs := [10, 12]) (by kernel_rfl) (by simp) ?_
                refine (AllReadyH.cons rfl (fun K hK => ?_) (AllReadyH.cons rfl (fun K hK => ?_) AllReadyH.nil))
                · refine step_append_at rfl (.tmp 45) (.tmp 47) 28 rfl V0.heap.size 145 ti (.agg zeroM) 5 48 Tryz.underlying28 hin hz0 hz1 hz2 rfl (by decide) v1 n (cellsM ms) (by simp [Act.eval, Act.put]) OV.out (some ⟨V1.heap.size, 0, none⟩) 1 1 [.string m.n, .int .i64 m.x, .int .i64 m.y, .int .i64 m.s, .int .i64 m.z] (by simp [Act.eval, Act.put]) (fun h => by cases h) rfl (fun ad h j u hu => by cases h; exact box_at E1 j u hu) (ones9 m) (by unfold maxLen; omega) (by omega) (by omega) ?_
                  intro v2 V4 hown hgrow hat
                  have zG := hgrow.size
                  have hE' : Ext w5 V4 := row_grown (w0 := w5) OV.out hgrow (by omega) hE
                  have OW0 : OwnM V4 (N + 1) v2 (ms ++ [m]) := row_mono (own_snoc (show V4.ownsRow V0.heap.size 145 5 v2 (ms.length + 1) (cellsM ms ++ [.string m.n, .int .i64 m.x, .int .i64 m.y, .int .i64 m.s, .int .i64 m.z]) by rw [← Hn.out]; exact hown)) (by omega)
                  obtain ⟨a1, cap1, rfl, -⟩ := OW0.mks HFit.out
                  rw [hl1] at OW0 ⊢
                  have OW := Lib.hid OW0
                  clear hown OV hat hgrow E1 OW0
                  refine hK.out _ _ hE' (fun hHeld => ?_)
                  clear hK K
                  (try simp only [Act.put, Ord.a, Ord.b, Ord.c])
                  replace hE := hE'
                  clear hE'
                  have zV4 := Ext.size hE
                  refine Ord.K 11 49 ?_
                  refine wpAnyH_ready (rs := [12]) (by kernel_rfl) (by simp) ?_
                  refine (AllReadyH.cons rfl (fun K hK => ?_) AllReadyH.nil)
                  · go_simp
                    have hE' : Ext w5 (V4.alloc (.cells (cellsC zeroL zeroL (.slice none 0 0)).toArray 30)) := hE.alloc _
                    refine hK.out _ _ hE' (fun hHeld => ?_)
                    clear hK K
                    (try simp only [Act.put, Ord.a, Ord.b, Ord.c])
                    replace OW := Lib.hid (OW.out.ext ((Ext.refl V4).alloc (.cells (cellsC zeroL zeroL (.slice none 0 0)).toArray 30)))
                    have PB := Box.new (w := V4) (n := V4.heap.size) (vs := cellsC zeroL zeroL (.slice none 0 0)) (t := 30) rfl
                    have yV4 : V4.heap.size < (V4.alloc (.cells (cellsC zeroL zeroL (.slice none 0 0)).toArray 30)).heap.size := by simp
                    have zV4 := Ext.size hE
                    generalize V4.alloc (.cells (cellsC zeroL zeroL (.slice none 0 0)).toArray 30) = V5 at *
                    replace hE := hE'
                    clear hE'
                    have zV5 := Ext.size hE
                    refine wpAnyH_ready (rs := [13]) (by kernel_rfl) (by simp) ?_
                    refine (AllReadyH.cons rfl (fun K hK => ?_) AllReadyH.nil)
                    obtain ⟨⟨u0, u1, u2, u3, u4, u5, u6, u7, u8⟩, g0, g1, g2, g3, g4, g5, g6, g7, g8⟩ := Box.nine PB
                    have NB := OwnM.apart OW.out (by simp) u0
                    go_simp
                    have hE' : Ext w5 (Crs.put9 V5 V4.heap.size (.int .i64 l.a) (.int .i64 l.b) (.int .i64 l.c) (.int .i64 l.d) (.int .i64 k.a) (.int .i64 k.b) (.int .i64 k.c) (.int .i64 k.d) (.slice a1 (n + 1) cap1)) := Ext.put9 hE (by omega) (.int .i64 l.a) (.int .i64 l.b) (.int .i64 l.c) (.int .i64 l.d) (.int .i64 k.a) (.int .i64 k.b) (.int .i64 k.c) (.int .i64 k.d) (.slice a1 (n + 1) cap1)
                    refine hK.out _ _ hE' (fun hHeld => ?_)
                    clear hK K
                    (try simp only [Act.put, Ord.a, Ord.b, Ord.c])
                    have QB := Box.put9 PB (.int .i64 l.a) (.int .i64 l.b) (.int .i64 l.c) (.int .i64 l.d) (.int .i64 k.a) (.int .i64 k.b) (.int .i64 k.c) (.int .i64 k.d) (.slice a1 (n + 1) cap1)
                    have QO := OW.out.chg (Chg.put9 (n := V4.heap.size) (.int .i64 l.a) (.int .i64 l.b) (.int .i64 l.c) (.int .i64 l.d) (.int .i64 k.a) (.int .i64 k.b) (.int .i64 k.c) (.int .i64 k.d) (.slice a1 (n + 1) cap1)) NB
                    refine wpAnyH_done (by kernel_rfl) ?_ _
                    go_wp2_with fail
                    go_meet
                    exact ⟨_, a1, cap1, rfl, QB, QO, NB, by omega, hE'⟩
                · go_simp
                  have hE' : Ext w5 (V3.alloc (.cells (cellsC zeroL zeroL (.slice none 0 0)).toArray 30)) := hE.alloc _
                  refine hK.out _ _ hE' (fun hHeld => ?_)
                  clear hK K
                  (try simp only [Act.put, Ord.a, Ord.b, Ord.c])
                  have NV : v1.ownBlock ≠ some V3.heap.size := fun e => absurd (World.ownsRow.lt OV.out _ e).2 (by omega)
                  replace OV := Lib.hid (row_ext OV.out ((Ext.refl V3).alloc (.cells (cellsC zeroL zeroL (.slice none 0 0)).toArray 30)))
                  replace E1 := Box.alloc E1 (.cells (cellsC zeroL zeroL (.slice none 0 0)).toArray 30)
                  have PB := Box.new (w := V3) (n := V3.heap.size) (vs := cellsC zeroL zeroL (.slice none 0 0)) (t := 30) rfl
                  have yV3 : V3.heap.size < (V3.alloc (.cells (cellsC zeroL zeroL (.slice none 0 0)).toArray 30)).heap.size := by simp
                  have zV3 := Ext.size hE
                  generalize V3.alloc (.cells (cellsC zeroL zeroL (.slice none 0 0)).toArray 30) = V4 at *
                  replace hE := hE'
                  clear hE'
                  have zV4 := Ext.size hE
                  refine wpAnyH_ready (rs := [10]) (by kernel_rfl) (by simp) ?_
                  refine (AllReadyH.cons rfl (fun K hK => ?_) AllReadyH.nil)
                  · refine step_append_at rfl (.tmp 45) (.tmp 47) 28 rfl V0.heap.size 145 ti (.agg zeroM) 5 48 Tryz.underlying28 hin hz0 hz1 hz2 rfl (by decide) v1 n (cellsM ms) (by simp [Act.eval, Act.put]) OV.out (some ⟨V1.heap.size, 0, none⟩) 1 1 [.string m.n, .int .i64 m.x, .int .i64 m.y, .int .i64 m.s, .int .i64 m.z] (by simp [Act.eval, Act.put]) (fun h => by cases h) rfl (fun ad h j u hu => by cases h; exact box_at E1 j u hu) (ones9 m) (by unfold maxLen; omega) (by omega) (by omega) ?_
                    intro v2 V5 hown hgrow hat
                    have zG := hgrow.size
                    have hE' : Ext w5 V5 := row_grown (w0 := w5) OV.out hgrow (by omega) hE
                    have OW0 : OwnM V5 (N + 1) v2 (ms ++ [m]) := row_mono (own_snoc (show V5.ownsRow V0.heap.size 145 5 v2 (ms.length + 1) (cellsM ms ++ [.string m.n, .int .i64 m.x, .int .i64 m.y, .int .i64 m.s, .int .i64 m.z]) by rw [← Hn.out]; exact hown)) (by omega)
                    replace PB := box_grown9 PB hgrow NV
                    obtain ⟨a1, cap1, rfl, -⟩ := OW0.mks HFit.out
                    rw [hl1] at OW0 ⊢
                    have OW := Lib.hid OW0
                    clear hown OV hat hgrow E1 OW0
                    refine hK.out _ _ hE' (fun hHeld => ?_)
                    clear hK K
                    (try simp only [Act.put, Ord.a, Ord.b, Ord.c])
                    replace hE := hE'
                    clear hE'
                    have zV5 := Ext.size hE
                    refine Ord.K 11 49 ?_
                    refine wpAnyH_ready (rs := [13]) (by kernel_rfl) (by simp) ?_
                    refine (AllReadyH.cons rfl (fun K hK => ?_) AllReadyH.nil)
                    obtain ⟨⟨u0, u1, u2, u3, u4, u5, u6, u7, u8⟩, g0, g1, g2, g3, g4, g5, g6, g7, g8⟩ := Box.nine PB
                    have NB := OwnM.apart OW.out (by simp) u0
                    go_simp
                    have hE' : Ext w5 (Crs.put9 V5 V3.heap.size (.int .i64 l.a) (.int .i64 l.b) (.int .i64 l.c) (.int .i64 l.d) (.int .i64 k.a) (.int .i64 k.b) (.int .i64 k.c) (.int .i64 k.d) (.slice a1 (n + 1) cap1)) := Ext.put9 hE (by omega) (.int .i64 l.a) (.int .i64 l.b) (.int .i64 l.c) (.int .i64 l.d) (.int .i64 k.a) (.int .i64 k.b) (.int .i64 k.c) (.int .i64 k.d) (.slice a1 (n + 1) cap1)
                    refine hK.out _ _ hE' (fun hHeld => ?_)
                    clear hK K
                    (try simp only [Act.put, Ord.a, Ord.b, Ord.c])
                    have QB := Box.put9 PB (.int .i64 l.a) (.int .i64 l.b) (.int .i64 l.c) (.int .i64 l.d) (.int .i64 k.a) (.int .i64 k.b) (.int .i64 k.c) (.int .i64 k.d) (.slice a1 (n + 1) cap1)
                    have QO := OW.out.chg (Chg.put9 (n := V3.heap.size) (.int .i64 l.a) (.int .i64 l.b) (.int .i64 l.c) (.int .i64 l.d) (.int .i64 k.a) (.int .i64 k.b) (.int .i64 k.c) (.int .i64 k.d) (.slice a1 (n + 1) cap1)) NB
                    refine wpAnyH_done (by kernel_rfl) ?_ _
                    go_wp2_with fail
                    go_meet
                    exact ⟨_, a1, cap1, rfl, QB, QO, NB, by omega, hE'⟩
              · go_simp
                have hE' : Ext w5 (V2.alloc (.cells (cellsC zeroL zeroL (.slice none 0 0)).toArray 30)) := hE.alloc _
                refine hK.out _ _ hE' (fun hHeld => ?_)
                clear hK K
                (try simp only [Act.put, Ord.a, Ord.b, Ord.c])
                replace O1 := row_ext O1 ((Ext.refl V2).alloc (.cells (cellsC zeroL zeroL (.slice none 0 0)).toArray 30))
                replace E1 := Box.alloc E1 (.cells (cellsC zeroL zeroL (.slice none 0 0)).toArray 30)
                have PB := Box.new (w := V2) (n := V2.heap.size) (vs := cellsC zeroL zeroL (.slice none 0 0)) (t := 30) rfl
                have yV2 : V2.heap.size < (V2.alloc (.cells (cellsC zeroL zeroL (.slice none 0 0)).toArray 30)).heap.size := by simp
                have zV2 := Ext.size hE
                generalize V2.alloc (.cells (cellsC zeroL zeroL (.slice none 0 0)).toArray 30) = V3 at *
                replace hE := hE'
                clear hE'
                have zV3 := Ext.size hE
                refine wpAnyH_ready (rs := [7]) (by kernel_rfl) (by simp) ?_
                refine (AllReadyH.cons rfl (fun K hK => ?_) AllReadyH.nil)
                · refine step_append_at rfl (.tmp 42) (.tmp 44) 28 rfl V0.heap.size 145 ti (.agg zeroM) 5 48 Tryz.underlying28 hin hz0 hz1 hz2 rfl (by decide) (.slice (some ⟨V0.heap.size, 0, none⟩) 0 0) 0 [] (by simp [Act.eval, Act.put]) O1 ao n cap (cellsM ms) (by simp [Act.eval, Act.put]) hnone.out P2.out (fun ad h j u hu => hE.cellOf (HA.out ad h j u hu)) P1.out (by unfold maxLen; omega) (by omega) (by omega) ?_
                  intro v1 V4 hown hgrow hat
                  have zG := hgrow.size
                  have hE' : Ext w5 V4 := row_grown (w0 := w5) O1 hgrow (by omega) hE
                  have OV := Lib.hid (show V4.ownsRow V0.heap.size 145 5 v1 n (cellsM ms) by simpa using hown)
                  replace E1 := box_grown9 E1 hgrow (by simp [Value.ownBlock]; omega)
                  replace PB := box_grown9 PB hgrow (by simp [Value.ownBlock]; omega)
                  have NV : v1.ownBlock ≠ some V2.heap.size := by rcases hat with e | e <;> rw [e] <;> simp [Value.ownBlock] <;> omega
                  clear hown O1 hat hgrow
                  refine hK.out _ _ hE' (fun hHeld => ?_)
                  clear hK K
                  (try simp only [Act.put, Ord.a, Ord.b, Ord.c])
                  replace hE := hE'
                  clear hE'
                  have zV4 := Ext.size hE
                  refine wpAnyH_ready (rs := [10]) (by kernel_rfl) (by simp) ?_
                  refine (AllReadyH.cons rfl (fun K hK => ?_) AllReadyH.nil)
                  · refine step_append_at rfl (.tmp 45) (.tmp 47) 28 rfl V0.heap.size 145 ti (.agg zeroM) 5 48 Tryz.underlying28 hin hz0 hz1 hz2 rfl (by decide) v1 n (cellsM ms) (by simp [Act.eval, Act.put]) OV.out (some ⟨V1.heap.size, 0, none⟩) 1 1 [.string m.n, .int .i64 m.x, .int .i64 m.y, .int .i64 m.s, .int .i64 m.z] (by simp [Act.eval, Act.put]) (fun h => by cases h) rfl (fun ad h j u hu => by cases h; exact box_at E1 j u hu) (ones9 m) (by unfold maxLen; omega) (by omega) (by omega) ?_
                    intro v2 V5 hown hgrow hat
                    have zG := hgrow.size
                    have hE' : Ext w5 V5 := row_grown (w0 := w5) OV.out hgrow (by omega) hE
                    have OW0 : OwnM V5 (N + 1) v2 (ms ++ [m]) := row_mono (own_snoc (show V5.ownsRow V0.heap.size 145 5 v2 (ms.length + 1) (cellsM ms ++ [.string m.n, .int .i64 m.x, .int .i64 m.y, .int .i64 m.s, .int .i64 m.z]) by rw [← Hn.out]; exact hown)) (by omega)
                    replace PB := box_grown9 PB hgrow NV
                    obtain ⟨a1, cap1, rfl, -⟩ := OW0.mks HFit.out
                    rw [hl1] at OW0 ⊢
                    have OW := Lib.hid OW0
                    clear hown OV hat hgrow E1 OW0
                    refine hK.out _ _ hE' (fun hHeld => ?_)
                    clear hK K
                    (try simp only [Act.put, Ord.a, Ord.b, Ord.c])
                    replace hE := hE'
                    clear hE'
                    have zV5 := Ext.size hE
                    refine Ord.K 11 49 ?_
                    refine wpAnyH_ready (rs := [13]) (by kernel_rfl) (by simp) ?_
                    refine (AllReadyH.cons rfl (fun K hK => ?_) AllReadyH.nil)
                    obtain ⟨⟨u0, u1, u2, u3, u4, u5, u6, u7, u8⟩, g0, g1, g2, g3, g4, g5, g6, g7, g8⟩ := Box.nine PB
                    have NB := OwnM.apart OW.out (by simp) u0
                    go_simp
                    have hE' : Ext w5 (Crs.put9 V5 V2.heap.size (.int .i64 l.a) (.int .i64 l.b) (.int .i64 l.c) (.int .i64 l.d) (.int .i64 k.a) (.int .i64 k.b) (.int .i64 k.c) (.int .i64 k.d) (.slice a1 (n + 1) cap1)) := Ext.put9 hE (by omega) (.int .i64 l.a) (.int .i64 l.b) (.int .i64 l.c) (.int .i64 l.d) (.int .i64 k.a) (.int .i64 k.b) (.int .i64 k.c) (.int .i64 k.d) (.slice a1 (n + 1) cap1)
                    refine hK.out _ _ hE' (fun hHeld => ?_)
                    clear hK K
                    (try simp only [Act.put, Ord.a, Ord.b, Ord.c])
                    have QB := Box.put9 PB (.int .i64 l.a) (.int .i64 l.b) (.int .i64 l.c) (.int .i64 l.d) (.int .i64 k.a) (.int .i64 k.b) (.int .i64 k.c) (.int .i64 k.d) (.slice a1 (n + 1) cap1)
                    have QO := OW.out.chg (Chg.put9 (n := V2.heap.size) (.int .i64 l.a) (.int .i64 l.b) (.int .i64 l.c) (.int .i64 l.d) (.int .i64 k.a) (.int .i64 k.b) (.int .i64 k.c) (.int .i64 k.d) (.slice a1 (n + 1) cap1)) NB
                    refine wpAnyH_done (by kernel_rfl) ?_ _
                    go_wp2_with fail
                    go_meet
                    exact ⟨_, a1, cap1, rfl, QB, QO, NB, by omega, hE'⟩
            · go_simp
              have hE' : Ext w5 (V1.alloc (.cells (cellsC zeroL zeroL (.slice none 0 0)).toArray 30)) := hE.alloc _
              refine hK.out _ _ hE' (fun hHeld => ?_)
              clear hK K
              (try simp only [Act.put, Ord.a, Ord.b, Ord.c])
              replace O1 := row_ext O1 ((Ext.refl V1).alloc (.cells (cellsC zeroL zeroL (.slice none 0 0)).toArray 30))
              have PB := Box.new (w := V1) (n := V1.heap.size) (vs := cellsC zeroL zeroL (.slice none 0 0)) (t := 30) rfl
              have yV1 : V1.heap.size < (V1.alloc (.cells (cellsC zeroL zeroL (.slice none 0 0)).toArray 30)).heap.size := by simp
              have zV1 := Ext.size hE
              generalize V1.alloc (.cells (cellsC zeroL zeroL (.slice none 0 0)).toArray 30) = V2 at *
              replace hE := hE'
              clear hE'
              have zV2 := Ext.size hE
              refine wpAnyH_ready (rs := [7, 9]) (by kernel_rfl) (by simp) ?_
              refine (AllReadyH.cons rfl (fun K hK => ?_) (AllReadyH.cons rfl (fun K hK => ?_) AllReadyH.nil))
              · refine step_append_at rfl (.tmp 42) (.tmp 44) 28 rfl V0.heap.size 145 ti (.agg zeroM) 5 48 Tryz.underlying28 hin hz0 hz1 hz2 rfl (by decide) (.slice (some ⟨V0.heap.size, 0, none⟩) 0 0) 0 [] (by simp [Act.eval, Act.put]) O1 ao n cap (cellsM ms) (by simp [Act.eval, Act.put]) hnone.out P2.out (fun ad h j u hu => hE.cellOf (HA.out ad h j u hu)) P1.out (by unfold maxLen; omega) (by omega) (by omega) ?_
                intro v1 V3 hown hgrow hat
                have zG := hgrow.size
                have hE' : Ext w5 V3 := row_grown (w0 := w5) O1 hgrow (by omega) hE
                have OV := Lib.hid (show V3.ownsRow V0.heap.size 145 5 v1 n (cellsM ms) by simpa using hown)
                replace PB := box_grown9 PB hgrow (by simp [Value.ownBlock]; omega)
                have NV : v1.ownBlock ≠ some V1.heap.size := by rcases hat with e | e <;> rw [e] <;> simp [Value.ownBlock] <;> omega
                clear hown O1 hat hgrow
                refine hK.out _ _ hE' (fun hHeld => ?_)
                clear hK K
                (try simp only [Act.put, Ord.a, Ord.b, Ord.c])
                replace hE := hE'
                clear hE'
                have zV3 := Ext.size hE
                refine wpAnyH_ready (rs := [9]) (by kernel_rfl) (by simp) ?_
                refine (AllReadyH.cons rfl (fun K hK => ?_) AllReadyH.nil)
                · go_simp
                  have hE' : Ext w5 (V3.alloc (.cells #[.string m.n, .int .i64 m.x, .int .i64 m.y, .int .i64 m.s, .int .i64 m.z] 145)) := hE.alloc _
                  refine hK.out _ _ hE' (fun hHeld => ?_)
                  clear hK K
                  (try simp only [Act.put, Ord.a, Ord.b, Ord.c])
                  replace OV := Lib.hid (row_ext OV.out ((Ext.refl V3).alloc (.cells #[.string m.n, .int .i64 m.x, .int .i64 m.y, .int .i64 m.s, .int .i64 m.z] 145)))
                  replace PB := Box.alloc PB (.cells #[.string m.n, .int .i64 m.x, .int .i64 m.y, .int .i64 m.s, .int .i64 m.z] 145)
                  have E1 := Box.new (w := V3) (n := V3.heap.size) (vs := [.string m.n, .int .i64 m.x, .int .i64 m.y, .int .i64 m.s, .int .i64 m.z]) (t := 145) rfl
                  have yV3 : V3.heap.size < (V3.alloc (.cells #[.string m.n, .int .i64 m.x, .int .i64 m.y, .int .i64 m.s, .int .i64 m.z] 145)).heap.size := by simp
                  have zV3 := Ext.size hE
                  generalize V3.alloc (.cells #[.string m.n, .int .i64 m.x, .int .i64 m.y, .int .i64 m.s, .int .i64 m.z] 145) = V4 at *
                  replace hE := hE'
                  clear hE'
                  have zV4 := Ext.size hE
                  refine wpAnyH_ready (rs := [10]) (by kernel_rfl) (by simp) ?_
                  refine (AllReadyH.cons rfl (fun K hK => ?_) AllReadyH.nil)
                  · refine step_append_at rfl (.tmp 45) (.tmp 47) 28 rfl V0.heap.size 145 ti (.agg zeroM) 5 48 Tryz.underlying28 hin hz0 hz1 hz2 rfl (by decide) v1 n (cellsM ms) (by simp [Act.eval, Act.put]) OV.out (some ⟨V3.heap.size, 0, none⟩) 1 1 [.string m.n, .int .i64 m.x, .int .i64 m.y, .int .i64 m.s, .int .i64 m.z] (by simp [Act.eval, Act.put]) (fun h => by cases h) rfl (fun ad h j u hu => by cases h; exact box_at E1 j u hu) (ones9 m) (by unfold maxLen; omega) (by omega) (by omega) ?_
                    intro v2 V5 hown hgrow hat
                    have zG := hgrow.size
                    have hE' : Ext w5 V5 := row_grown (w0 := w5) OV.out hgrow (by omega) hE
                    have OW0 : OwnM V5 (N + 1) v2 (ms ++ [m]) := row_mono (own_snoc (show V5.ownsRow V0.heap.size 145 5 v2 (ms.length + 1) (cellsM ms ++ [.string m.n, .int .i64 m.x, .int .i64 m.y, .int .i64 m.s, .int .i64 m.z]) by rw [← Hn.out]; exact hown)) (by omega)
                    replace PB := box_grown9 PB hgrow NV
                    obtain ⟨a1, cap1, rfl, -⟩ := OW0.mks HFit.out
                    rw [hl1] at OW0 ⊢
                    have OW := Lib.hid OW0
                    clear hown OV hat hgrow E1 OW0
                    refine hK.out _ _ hE' (fun hHeld => ?_)
                    clear hK K
                    (try simp only [Act.put, Ord.a, Ord.b, Ord.c])
                    replace hE := hE'
                    clear hE'
                    have zV5 := Ext.size hE
                    refine Ord.K 11 49 ?_
                    refine wpAnyH_ready (rs := [13]) (by kernel_rfl) (by simp) ?_
                    refine (AllReadyH.cons rfl (fun K hK => ?_) AllReadyH.nil)
                    obtain ⟨⟨u0, u1, u2, u3, u4, u5, u6, u7, u8⟩, g0, g1, g2, g3, g4, g5, g6, g7, g8⟩ := Box.nine PB
                    have NB := OwnM.apart OW.out (by simp) u0
                    go_simp
                    have hE' : Ext w5 (Crs.put9 V5 V1.heap.size (.int .i64 l.a) (.int .i64 l.b) (.int .i64 l.c) (.int .i64 l.d) (.int .i64 k.a) (.int .i64 k.b) (.int .i64 k.c) (.int .i64 k.d) (.slice a1 (n + 1) cap1)) := Ext.put9 hE (by omega) (.int .i64 l.a) (.int .i64 l.b) (.int .i64 l.c) (.int .i64 l.d) (.int .i64 k.a) (.int .i64 k.b) (.int .i64 k.c) (.int .i64 k.d) (.slice a1 (n + 1) cap1)
                    refine hK.out _ _ hE' (fun hHeld => ?_)
                    clear hK K
                    (try simp only [Act.put, Ord.a, Ord.b, Ord.c])
                    have QB := Box.put9 PB (.int .i64 l.a) (.int .i64 l.b) (.int .i64 l.c) (.int .i64 l.d) (.int .i64 k.a) (.int .i64 k.b) (.int .i64 k.c) (.int .i64 k.d) (.slice a1 (n + 1) cap1)
                    have QO := OW.out.chg (Chg.put9 (n := V1.heap.size) (.int .i64 l.a) (.int .i64 l.b) (.int .i64 l.c) (.int .i64 l.d) (.int .i64 k.a) (.int .i64 k.b) (.int .i64 k.c) (.int .i64 k.d) (.slice a1 (n + 1) cap1)) NB
                    refine wpAnyH_done (by kernel_rfl) ?_ _
                    go_wp2_with fail
                    go_meet
                    exact ⟨_, a1, cap1, rfl, QB, QO, NB, by omega, hE'⟩
              · go_simp
                have hE' : Ext w5 (V2.alloc (.cells #[.string m.n, .int .i64 m.x, .int .i64 m.y, .int .i64 m.s, .int .i64 m.z] 145)) := hE.alloc _
                refine hK.out _ _ hE' (fun hHeld => ?_)
                clear hK K
                (try simp only [Act.put, Ord.a, Ord.b, Ord.c])
                replace O1 := row_ext O1 ((Ext.refl V2).alloc (.cells #[.string m.n, .int .i64 m.x, .int .i64 m.y, .int .i64 m.s, .int .i64 m.z] 145))
                replace PB := Box.alloc PB (.cells #[.string m.n, .int .i64 m.x, .int .i64 m.y, .int .i64 m.s, .int .i64 m.z] 145)
                have E1 := Box.new (w := V2) (n := V2.heap.size) (vs := [.string m.n, .int .i64 m.x, .int .i64 m.y, .int .i64 m.s, .int .i64 m.z]) (t := 145) rfl
                have yV2 : V2.heap.size < (V2.alloc (.cells #[.string m.n, .int .i64 m.x, .int .i64 m.y, .int .i64 m.s, .int .i64 m.z] 145)).heap.size := by simp
                have zV2 := Ext.size hE
                generalize V2.alloc (.cells #[.string m.n, .int .i64 m.x, .int .i64 m.y, .int .i64 m.s, .int .i64 m.z] 145) = V3 at *
                replace hE := hE'
                clear hE'
                have zV3 := Ext.size hE
                refine wpAnyH_ready (rs := [7]) (by kernel_rfl) (by simp) ?_
                refine (AllReadyH.cons rfl (fun K hK => ?_) AllReadyH.nil)
                · refine step_append_at rfl (.tmp 42) (.tmp 44) 28 rfl V0.heap.size 145 ti (.agg zeroM) 5 48 Tryz.underlying28 hin hz0 hz1 hz2 rfl (by decide) (.slice (some ⟨V0.heap.size, 0, none⟩) 0 0) 0 [] (by simp [Act.eval, Act.put]) O1 ao n cap (cellsM ms) (by simp [Act.eval, Act.put]) hnone.out P2.out (fun ad h j u hu => hE.cellOf (HA.out ad h j u hu)) P1.out (by unfold maxLen; omega) (by omega) (by omega) ?_
                  intro v1 V4 hown hgrow hat
                  have zG := hgrow.size
                  have hE' : Ext w5 V4 := row_grown (w0 := w5) O1 hgrow (by omega) hE
                  have OV := Lib.hid (show V4.ownsRow V0.heap.size 145 5 v1 n (cellsM ms) by simpa using hown)
                  replace E1 := box_grown9 E1 hgrow (by simp [Value.ownBlock]; omega)
                  replace PB := box_grown9 PB hgrow (by simp [Value.ownBlock]; omega)
                  have NV : v1.ownBlock ≠ some V1.heap.size := by rcases hat with e | e <;> rw [e] <;> simp [Value.ownBlock] <;> omega
                  clear hown O1 hat hgrow
                  refine hK.out _ _ hE' (fun hHeld => ?_)
                  clear hK K
                  (try simp only [Act.put, Ord.a, Ord.b, Ord.c])
                  replace hE := hE'
                  clear hE'
                  have zV4 := Ext.size hE
                  refine wpAnyH_ready (rs := [10]) (by kernel_rfl) (by simp) ?_
                  refine (AllReadyH.cons rfl (fun K hK => ?_) AllReadyH.nil)
                  · refine step_append_at rfl (.tmp 45) (.tmp 47) 28 rfl V0.heap.size 145 ti (.agg zeroM) 5 48 Tryz.underlying28 hin hz0 hz1 hz2 rfl (by decide) v1 n (cellsM ms) (by simp [Act.eval, Act.put]) OV.out (some ⟨V2.heap.size, 0, none⟩) 1 1 [.string m.n, .int .i64 m.x, .int .i64 m.y, .int .i64 m.s, .int .i64 m.z] (by simp [Act.eval, Act.put]) (fun h => by cases h) rfl (fun ad h j u hu => by cases h; exact box_at E1 j u hu) (ones9 m) (by unfold maxLen; omega) (by omega) (by omega) ?_
                    intro v2 V5 hown hgrow hat
                    have zG := hgrow.size
                    have hE' : Ext w5 V5 := row_grown (w0 := w5) OV.out hgrow (by omega) hE
                    have OW0 : OwnM V5 (N + 1) v2 (ms ++ [m]) := row_mono (own_snoc (show V5.ownsRow V0.heap.size 145 5 v2 (ms.length + 1) (cellsM ms ++ [.string m.n, .int .i64 m.x, .int .i64 m.y, .int .i64 m.s, .int .i64 m.z]) by rw [← Hn.out]; exact hown)) (by omega)
                    replace PB := box_grown9 PB hgrow NV
                    obtain ⟨a1, cap1, rfl, -⟩ := OW0.mks HFit.out
                    rw [hl1] at OW0 ⊢
                    have OW := Lib.hid OW0
                    clear hown OV hat hgrow E1 OW0
                    refine hK.out _ _ hE' (fun hHeld => ?_)
                    clear hK K
                    (try simp only [Act.put, Ord.a, Ord.b, Ord.c])
                    replace hE := hE'
                    clear hE'
                    have zV5 := Ext.size hE
                    refine Ord.K 11 49 ?_
                    refine wpAnyH_ready (rs := [13]) (by kernel_rfl) (by simp) ?_
                    refine (AllReadyH.cons rfl (fun K hK => ?_) AllReadyH.nil)
                    obtain ⟨⟨u0, u1, u2, u3, u4, u5, u6, u7, u8⟩, g0, g1, g2, g3, g4, g5, g6, g7, g8⟩ := Box.nine PB
                    have NB := OwnM.apart OW.out (by simp) u0
                    go_simp
                    have hE' : Ext w5 (Crs.put9 V5 V1.heap.size (.int .i64 l.a) (.int .i64 l.b) (.int .i64 l.c) (.int .i64 l.d) (.int .i64 k.a) (.int .i64 k.b) (.int .i64 k.c) (.int .i64 k.d) (.slice a1 (n + 1) cap1)) := Ext.put9 hE (by omega) (.int .i64 l.a) (.int .i64 l.b) (.int .i64 l.c) (.int .i64 l.d) (.int .i64 k.a) (.int .i64 k.b) (.int .i64 k.c) (.int .i64 k.d) (.slice a1 (n + 1) cap1)
                    refine hK.out _ _ hE' (fun hHeld => ?_)
                    clear hK K
                    (try simp only [Act.put, Ord.a, Ord.b, Ord.c])
                    have QB := Box.put9 PB (.int .i64 l.a) (.int .i64 l.b) (.int .i64 l.c) (.int .i64 l.d) (.int .i64 k.a) (.int .i64 k.b) (.int .i64 k.c) (.int .i64 k.d) (.slice a1 (n + 1) cap1)
                    have QO := OW.out.chg (Chg.put9 (n := V1.heap.size) (.int .i64 l.a) (.int .i64 l.b) (.int .i64 l.c) (.int .i64 l.d) (.int .i64 k.a) (.int .i64 k.b) (.int .i64 k.c) (.int .i64 k.d) (.slice a1 (n + 1) cap1)) NB
                    refine wpAnyH_done (by kernel_rfl) ?_ _
                    go_wp2_with fail
                    go_meet
                    exact ⟨_, a1, cap1, rfl, QB, QO, NB, by omega, hE'⟩
          · go_simp
            have hE' : Ext w5 (V0.alloc (.cells #[.string m.n, .int .i64 m.x, .int .i64 m.y, .int .i64 m.s, .int .i64 m.z] 145)) := hE.alloc _
            refine hK.out _ _ hE' (fun hHeld => ?_)
            clear hK K
            (try simp only [Act.put, Ord.a, Ord.b, Ord.c])
            have E1 := Box.new (w := V0) (n := V0.heap.size) (vs := [.string m.n, .int .i64 m.x, .int .i64 m.y, .int .i64 m.s, .int .i64 m.z]) (t := 145) rfl
            have yV0 : V0.heap.size < (V0.alloc (.cells #[.string m.n, .int .i64 m.x, .int .i64 m.y, .int .i64 m.s, .int .i64 m.z] 145)).heap.size := by simp
            have zV0 := Ext.size hE
            generalize V0.alloc (.cells #[.string m.n, .int .i64 m.x, .int .i64 m.y, .int .i64 m.s, .int .i64 m.z] 145) = V1 at *
            replace hE := hE'
            clear hE'
            have zV1 := Ext.size hE
            refine wpAnyH_ready (rs := [4, 12]) (by kernel_rfl) (by simp) ?_
            refine (AllReadyH.cons rfl (fun K hK => ?_) (AllReadyH.cons rfl (fun K hK => ?_) AllReadyH.nil))
            · go_simp
              have hE' : Ext w5 (V1.alloc (.cells #[] 145)) := hE.alloc _
              refine hK.out _ _ hE' (fun hHeld => ?_)
              clear hK K
              (try simp only [Act.put, Ord.a, Ord.b, Ord.c])
              replace E1 := Box.alloc E1 (.cells #[] 145)
              have O1 : (V1.alloc (.cells #[] 145)).ownsRow V1.heap.size 145 5 (.slice (some ⟨V1.heap.size, 0, none⟩) 0 0) 0 [] := World.ownsRow_lit (base := V1.heap.size) (e := 145) (size := 5) V1 #[] 0 (Nat.le_refl _) (by unfold maxLen; omega) rfl
              have yV1 : V1.heap.size < (V1.alloc (.cells #[] 145)).heap.size := by simp
              have zV1 := Ext.size hE
              generalize V1.alloc (.cells #[] 145) = V2 at *
              replace hE := hE'
              clear hE'
              have zV2 := Ext.size hE
              refine wpAnyH_ready (rs := [7, 12]) (by kernel_rfl) (by simp) ?_
              refine (AllReadyH.cons rfl (fun K hK => ?_) (AllReadyH.cons rfl (fun K hK => ?_) AllReadyH.nil))
              · refine step_append_at rfl (.tmp 42) (.tmp 44) 28 rfl V1.heap.size 145 ti (.agg zeroM) 5 48 Tryz.underlying28 hin hz0 hz1 hz2 rfl (by decide) (.slice (some ⟨V1.heap.size, 0, none⟩) 0 0) 0 [] (by simp [Act.eval, Act.put]) O1 ao n cap (cellsM ms) (by simp [Act.eval, Act.put]) hnone.out P2.out (fun ad h j u hu => hE.cellOf (HA.out ad h j u hu)) P1.out (by unfold maxLen; omega) (by omega) (by omega) ?_
                intro v1 V3 hown hgrow hat
                have zG := hgrow.size
                have hE' : Ext w5 V3 := row_grown (w0 := w5) O1 hgrow (by omega) hE
                have OV := Lib.hid (show V3.ownsRow V1.heap.size 145 5 v1 n (cellsM ms) by simpa using hown)
                replace E1 := box_grown9 E1 hgrow (by simp [Value.ownBlock]; omega)
                clear hown O1 hat hgrow
                refine hK.out _ _ hE' (fun hHeld => ?_)
                clear hK K
                (try simp only [Act.put, Ord.a, Ord.b, Ord.c])
                replace hE := hE'
                clear hE'
                have zV3 := Ext.size hE
                refine wpAnyH_ready (rs := [10, 12]) (by kernel_rfl) (by simp) ?_
                refine (AllReadyH.cons rfl (fun K hK => ?_) (AllReadyH.cons rfl (fun K hK => ?_) AllReadyH.nil))
                · refine step_append_at rfl (.tmp 45) (.tmp 47) 28 rfl V1.heap.size 145 ti (.agg zeroM) 5 48 Tryz.underlying28 hin hz0 hz1 hz2 rfl (by decide) v1 n (cellsM ms) (by simp [Act.eval, Act.put]) OV.out (some ⟨V0.heap.size, 0, none⟩) 1 1 [.string m.n, .int .i64 m.x, .int .i64 m.y, .int .i64 m.s, .int .i64 m.z] (by simp [Act.eval, Act.put]) (fun h => by cases h) rfl (fun ad h j u hu => by cases h; exact box_at E1 j u hu) (ones9 m) (by unfold maxLen; omega) (by omega) (by omega) ?_
                  intro v2 V4 hown hgrow hat
                  have zG := hgrow.size
                  have hE' : Ext w5 V4 := row_grown (w0 := w5) OV.out hgrow (by omega) hE
                  have OW0 : OwnM V4 (N + 1) v2 (ms ++ [m]) := row_mono (own_snoc (show V4.ownsRow V1.heap.size 145 5 v2 (ms.length + 1) (cellsM ms ++ [.string m.n, .int .i64 m.x, .int .i64 m.y, .int .i64 m.s, .int .i64 m.z]) by rw [← Hn.out]; exact hown)) (by omega)
                  obtain ⟨a1, cap1, rfl, -⟩ := OW0.mks HFit.out
                  rw [hl1] at OW0 ⊢
                  have OW := Lib.hid OW0
                  clear hown OV hat hgrow E1 OW0
                  refine hK.out _ _ hE' (fun hHeld => ?_)
                  clear hK K
                  (try simp only [Act.put, Ord.a, Ord.b, Ord.c])
                  replace hE := hE'
                  clear hE'
                  have zV4 := Ext.size hE
                  refine Ord.K 11 49 ?_
                  refine wpAnyH_ready (rs := [12]) (by kernel_rfl) (by simp) ?_
                  refine (AllReadyH.cons rfl (fun K hK => ?_) AllReadyH.nil)
                  · go_simp
                    have hE' : Ext w5 (V4.alloc (.cells (cellsC zeroL zeroL (.slice none 0 0)).toArray 30)) := hE.alloc _
                    refine hK.out _ _ hE' (fun hHeld => ?_)
                    clear hK K
                    (try simp only [Act.put, Ord.a, Ord.b, Ord.c])
                    replace OW := Lib.hid (OW.out.ext ((Ext.refl V4).alloc (.cells (cellsC zeroL zeroL (.slice none 0 0)).toArray 30)))
                    have PB := Box.new (w := V4) (n := V4.heap.size) (vs := cellsC zeroL zeroL (.slice none 0 0)) (t := 30) rfl
                    have yV4 : V4.heap.size < (V4.alloc (.cells (cellsC zeroL zeroL (.slice none 0 0)).toArray 30)).heap.size := by simp
                    have zV4 := Ext.size hE
                    generalize V4.alloc (.cells (cellsC zeroL zeroL (.slice none 0 0)).toArray 30) = V5 at *
                    replace hE := hE'
                    clear hE'
                    have zV5 := Ext.size hE
                    refine wpAnyH_ready (rs := [13]) (by kernel_rfl) (by simp) ?_
                    refine (AllReadyH.cons rfl (fun K hK => ?_) AllReadyH.nil)
                    obtain ⟨⟨u0, u1, u2, u3, u4, u5, u6, u7, u8⟩, g0, g1, g2, g3, g4, g5, g6, g7, g8⟩ := Box.nine PB
                    have NB := OwnM.apart OW.out (by simp) u0
                    go_simp
                    have hE' : Ext w5 (Crs.put9 V5 V4.heap.size (.int .i64 l.a) (.int .i64 l.b) (.int .i64 l.c) (.int .i64 l.d) (.int .i64 k.a) (.int .i64 k.b) (.int .i64 k.c) (.int .i64 k.d) (.slice a1 (n + 1) cap1)) := Ext.put9 hE (by omega) (.int .i64 l.a) (.int .i64 l.b) (.int .i64 l.c) (.int .i64 l.d) (.int .i64 k.a) (.int .i64 k.b) (.int .i64 k.c) (.int .i64 k.d) (.slice a1 (n + 1) cap1)
                    refine hK.out _ _ hE' (fun hHeld => ?_)
                    clear hK K
                    (try simp only [Act.put, Ord.a, Ord.b, Ord.c])
                    have QB := Box.put9 PB (.int .i64 l.a) (.int .i64 l.b) (.int .i64 l.c) (.int .i64 l.d) (.int .i64 k.a) (.int .i64 k.b) (.int .i64 k.c) (.int .i64 k.d) (.slice a1 (n + 1) cap1)
                    have QO := OW.out.chg (Chg.put9 (n := V4.heap.size) (.int .i64 l.a) (.int .i64 l.b) (.int .i64 l.c) (.int .i64 l.d) (.int .i64 k.a) (.int .i64 k.b) (.int .i64 k.c) (.int .i64 k.d) (.slice a1 (n + 1) cap1)) NB
                    refine wpAnyH_done (by kernel_rfl) ?_ _
                    go_wp2_with fail
                    go_meet
                    exact ⟨_, a1, cap1, rfl, QB, QO, NB, by omega, hE'⟩
                · go_simp
                  have hE' : Ext w5 (V3.alloc (.cells (cellsC zeroL zeroL (.slice none 0 0)).toArray 30)) := hE.alloc _
                  refine hK.out _ _ hE' (fun hHeld => ?_)
                  clear hK K
                  (try simp only [Act.put, Ord.a, Ord.b, Ord.c])
                  have NV : v1.ownBlock ≠ some V3.heap.size := fun e => absurd (World.ownsRow.lt OV.out _ e).2 (by omega)
                  replace OV := Lib.hid (row_ext OV.out ((Ext.refl V3).alloc (.cells (cellsC zeroL zeroL (.slice none 0 0)).toArray 30)))
                  replace E1 := Box.alloc E1 (.cells (cellsC zeroL zeroL (.slice none 0 0)).toArray 30)
                  have PB := Box.new (w := V3) (n := V3.heap.size) (vs := cellsC zeroL zeroL (.slice none 0 0)) (t := 30) rfl
                  have yV3 : V3.heap.size < (V3.alloc (.cells (cellsC zeroL zeroL (.slice none 0 0)).toArray 30)).heap.size := by simp
                  have zV3 := Ext.size hE
                  generalize V3.alloc (.cells (cellsC zeroL zeroL (.slice none 0 0)).toArray 30) = V4 at *
                  replace hE := hE'
                  clear hE'
                  have zV4 := Ext.size hE
                  refine wpAnyH_ready (rs := [10]) (by kernel_rfl) (by simp) ?_
                  refine (AllReadyH.cons rfl (fun K hK => ?_) AllReadyH.nil)
                  · refine step_append_at rfl (.tmp 45) (.tmp 47) 28 rfl V1.heap.size 145 ti (.agg zeroM) 5 48 Tryz.underlying28 hin hz0 hz1 hz2 rfl (by decide) v1 n (cellsM ms) (by simp [Act.eval, Act.put]) OV.out (some ⟨V0.heap.size, 0, none⟩) 1 1 [.string m.n, .int .i64 m.x, .int .i64 m.y, .int .i64 m.s, .int .i64 m.z] (by simp [Act.eval, Act.put]) (fun h => by cases h) rfl (fun ad h j u hu => by cases h; exact box_at E1 j u hu) (ones9 m) (by unfold maxLen; omega) (by omega) (by omega) ?_
                    intro v2 V5 hown hgrow hat
                    have zG := hgrow.size
                    have hE' : Ext w5 V5 := row_grown (w0 := w5) OV.out hgrow (by omega) hE
                    have OW0 : OwnM V5 (N + 1) v2 (ms ++ [m]) := row_mono (own_snoc (show V5.ownsRow V1.heap.size 145 5 v2 (ms.length + 1) (cellsM ms ++ [.string m.n, .int .i64 m.x, .int .i64 m.y, .int .i64 m.s, .int .i64 m.z]) by rw [← Hn.out]; exact hown)) (by omega)
                    replace PB := box_grown9 PB hgrow NV
                    obtain ⟨a1, cap1, rfl, -⟩ := OW0.mks HFit.out
                    rw [hl1] at OW0 ⊢
                    have OW := Lib.hid OW0
                    clear hown OV hat hgrow E1 OW0
                    refine hK.out _ _ hE' (fun hHeld => ?_)
                    clear hK K
                    (try simp only [Act.put, Ord.a, Ord.b, Ord.c])
                    replace hE := hE'
                    clear hE'
                    have zV5 := Ext.size hE
                    refine Ord.K 11 49 ?_
                    refine wpAnyH_ready (rs := [13]) (by kernel_rfl) (by simp) ?_
                    refine (AllReadyH.cons rfl (fun K hK => ?_) AllReadyH.nil)
                    obtain ⟨⟨u0, u1, u2, u3, u4, u5, u6, u7, u8⟩, g0, g1, g2, g3, g4, g5, g6, g7, g8⟩ := Box.nine PB
                    have NB := OwnM.apart OW.out (by simp) u0
                    go_simp
                    have hE' : Ext w5 (Crs.put9 V5 V3.heap.size (.int .i64 l.a) (.int .i64 l.b) (.int .i64 l.c) (.int .i64 l.d) (.int .i64 k.a) (.int .i64 k.b) (.int .i64 k.c) (.int .i64 k.d) (.slice a1 (n + 1) cap1)) := Ext.put9 hE (by omega) (.int .i64 l.a) (.int .i64 l.b) (.int .i64 l.c) (.int .i64 l.d) (.int .i64 k.a) (.int .i64 k.b) (.int .i64 k.c) (.int .i64 k.d) (.slice a1 (n + 1) cap1)
                    refine hK.out _ _ hE' (fun hHeld => ?_)
                    clear hK K
                    (try simp only [Act.put, Ord.a, Ord.b, Ord.c])
                    have QB := Box.put9 PB (.int .i64 l.a) (.int .i64 l.b) (.int .i64 l.c) (.int .i64 l.d) (.int .i64 k.a) (.int .i64 k.b) (.int .i64 k.c) (.int .i64 k.d) (.slice a1 (n + 1) cap1)
                    have QO := OW.out.chg (Chg.put9 (n := V3.heap.size) (.int .i64 l.a) (.int .i64 l.b) (.int .i64 l.c) (.int .i64 l.d) (.int .i64 k.a) (.int .i64 k.b) (.int .i64 k.c) (.int .i64 k.d) (.slice a1 (n + 1) cap1)) NB
                    refine wpAnyH_done (by kernel_rfl) ?_ _
                    go_wp2_with fail
                    go_meet
                    exact ⟨_, a1, cap1, rfl, QB, QO, NB, by omega, hE'⟩
              · go_simp
                have hE' : Ext w5 (V2.alloc (.cells (cellsC zeroL zeroL (.slice none 0 0)).toArray 30)) := hE.alloc _
                refine hK.out _ _ hE' (fun hHeld => ?_)
                clear hK K
                (try simp only [Act.put, Ord.a, Ord.b, Ord.c])
                replace O1 := row_ext O1 ((Ext.refl V2).alloc (.cells (cellsC zeroL zeroL (.slice none 0 0)).toArray 30))
                replace E1 := Box.alloc E1 (.cells (cellsC zeroL zeroL (.slice none 0 0)).toArray 30)
                have PB := Box.new (w := V2) (n := V2.heap.size) (vs := cellsC zeroL zeroL (.slice none 0 0)) (t := 30) rfl
                have yV2 : V2.heap.size < (V2.alloc (.cells (cellsC zeroL zeroL (.slice none 0 0)).toArray 30)).heap.size := by simp
                have zV2 := Ext.size hE
                generalize V2.alloc (.cells (cellsC zeroL zeroL (.slice none 0 0)).toArray 30) = V3 at *
                replace hE := hE'
                clear hE'
                have zV3 := Ext.size hE
                refine wpAnyH_ready (rs := [7]) (by kernel_rfl) (by simp) ?_
                refine (AllReadyH.cons rfl (fun K hK => ?_) AllReadyH.nil)
                · refine step_append_at rfl (.tmp 42) (.tmp 44) 28 rfl V1.heap.size 145 ti (.agg zeroM) 5 48 Tryz.underlying28 hin hz0 hz1 hz2 rfl (by decide) (.slice (some ⟨V1.heap.size, 0, none⟩) 0 0) 0 [] (by simp [Act.eval, Act.put]) O1 ao n cap (cellsM ms) (by simp [Act.eval, Act.put]) hnone.out P2.out (fun ad h j u hu => hE.cellOf (HA.out ad h j u hu)) P1.out (by unfold maxLen; omega) (by omega) (by omega) ?_
                  intro v1 V4 hown hgrow hat
                  have zG := hgrow.size
                  have hE' : Ext w5 V4 := row_grown (w0 := w5) O1 hgrow (by omega) hE
                  have OV := Lib.hid (show V4.ownsRow V1.heap.size 145 5 v1 n (cellsM ms) by simpa using hown)
                  replace E1 := box_grown9 E1 hgrow (by simp [Value.ownBlock]; omega)
                  replace PB := box_grown9 PB hgrow (by simp [Value.ownBlock]; omega)
                  have NV : v1.ownBlock ≠ some V2.heap.size := by rcases hat with e | e <;> rw [e] <;> simp [Value.ownBlock] <;> omega
                  clear hown O1 hat hgrow
                  refine hK.out _ _ hE' (fun hHeld => ?_)
                  clear hK K
                  (try simp only [Act.put, Ord.a, Ord.b, Ord.c])
                  replace hE := hE'
                  clear hE'
                  have zV4 := Ext.size hE
                  refine wpAnyH_ready (rs := [10]) (by kernel_rfl) (by simp) ?_
                  refine (AllReadyH.cons rfl (fun K hK => ?_) AllReadyH.nil)
                  · refine step_append_at rfl (.tmp 45) (.tmp 47) 28 rfl V1.heap.size 145 ti (.agg zeroM) 5 48 Tryz.underlying28 hin hz0 hz1 hz2 rfl (by decide) v1 n (cellsM ms) (by simp [Act.eval, Act.put]) OV.out (some ⟨V0.heap.size, 0, none⟩) 1 1 [.string m.n, .int .i64 m.x, .int .i64 m.y, .int .i64 m.s, .int .i64 m.z] (by simp [Act.eval, Act.put]) (fun h => by cases h) rfl (fun ad h j u hu => by cases h; exact box_at E1 j u hu) (ones9 m) (by unfold maxLen; omega) (by omega) (by omega) ?_
                    intro v2 V5 hown hgrow hat
                    have zG := hgrow.size
                    have hE' : Ext w5 V5 := row_grown (w0 := w5) OV.out hgrow (by omega) hE
                    have OW0 : OwnM V5 (N + 1) v2 (ms ++ [m]) := row_mono (own_snoc (show V5.ownsRow V1.heap.size 145 5 v2 (ms.length + 1) (cellsM ms ++ [.string m.n, .int .i64 m.x, .int .i64 m.y, .int .i64 m.s, .int .i64 m.z]) by rw [← Hn.out]; exact hown)) (by omega)
                    replace PB := box_grown9 PB hgrow NV
                    obtain ⟨a1, cap1, rfl, -⟩ := OW0.mks HFit.out
                    rw [hl1] at OW0 ⊢
                    have OW := Lib.hid OW0
                    clear hown OV hat hgrow E1 OW0
                    refine hK.out _ _ hE' (fun hHeld => ?_)
                    clear hK K
                    (try simp only [Act.put, Ord.a, Ord.b, Ord.c])
                    replace hE := hE'
                    clear hE'
                    have zV5 := Ext.size hE
                    refine Ord.K 11 49 ?_
                    refine wpAnyH_ready (rs := [13]) (by kernel_rfl) (by simp) ?_
                    refine (AllReadyH.cons rfl (fun K hK => ?_) AllReadyH.nil)
                    obtain ⟨⟨u0, u1, u2, u3, u4, u5, u6, u7, u8⟩, g0, g1, g2, g3, g4, g5, g6, g7, g8⟩ := Box.nine PB
                    have NB := OwnM.apart OW.out (by simp) u0
                    go_simp
                    have hE' : Ext w5 (Crs.put9 V5 V2.heap.size (.int .i64 l.a) (.int .i64 l.b) (.int .i64 l.c) (.int .i64 l.d) (.int .i64 k.a) (.int .i64 k.b) (.int .i64 k.c) (.int .i64 k.d) (.slice a1 (n + 1) cap1)) := Ext.put9 hE (by omega) (.int .i64 l.a) (.int .i64 l.b) (.int .i64 l.c) (.int .i64 l.d) (.int .i64 k.a) (.int .i64 k.b) (.int .i64 k.c) (.int .i64 k.d) (.slice a1 (n + 1) cap1)
                    refine hK.out _ _ hE' (fun hHeld => ?_)
                    clear hK K
                    (try simp only [Act.put, Ord.a, Ord.b, Ord.c])
                    have QB := Box.put9 PB (.int .i64 l.a) (.int .i64 l.b) (.int .i64 l.c) (.int .i64 l.d) (.int .i64 k.a) (.int .i64 k.b) (.int .i64 k.c) (.int .i64 k.d) (.slice a1 (n + 1) cap1)
                    have QO := OW.out.chg (Chg.put9 (n := V2.heap.size) (.int .i64 l.a) (.int .i64 l.b) (.int .i64 l.c) (.int .i64 l.d) (.int .i64 k.a) (.int .i64 k.b) (.int .i64 k.c) (.int .i64 k.d) (.slice a1 (n + 1) cap1)) NB
                    refine wpAnyH_done (by kernel_rfl) ?_ _
                    go_wp2_with fail
                    go_meet
                    exact ⟨_, a1, cap1, rfl, QB, QO, NB, by omega, hE'⟩
            · go_simp
              have hE' : Ext w5 (V1.alloc (.cells (cellsC zeroL zeroL (.slice none 0 0)).toArray 30)) := hE.alloc _
              refine hK.out _ _ hE' (fun hHeld => ?_)
              clear hK K
              (try simp only [Act.put, Ord.a, Ord.b, Ord.c])
              replace E1 := Box.alloc E1 (.cells (cellsC zeroL zeroL (.slice none 0 0)).toArray 30)
              have PB := Box.new (w := V1) (n := V1.heap.size) (vs := cellsC zeroL zeroL (.slice none 0 0)) (t := 30) rfl
              have yV1 : V1.heap.size < (V1.alloc (.cells (cellsC zeroL zeroL (.slice none 0 0)).toArray 30)).heap.size := by simp
              have zV1 := Ext.size hE
              generalize V1.alloc (.cells (cellsC zeroL zeroL (.slice none 0 0)).toArray 30) = V2 at *
              replace hE := hE'
              clear hE'
              have zV2 := Ext.size hE
              refine wpAnyH_ready (rs := [4]) (by kernel_rfl) (by simp) ?_
              refine (AllReadyH.cons rfl (fun K hK => ?_) AllReadyH.nil)
              · go_simp
                have hE' : Ext w5 (V2.alloc (.cells #[] 145)) := hE.alloc _
                refine hK.out _ _ hE' (fun hHeld => ?_)
                clear hK K
                (try simp only [Act.put, Ord.a, Ord.b, Ord.c])
                replace E1 := Box.alloc E1 (.cells #[] 145)
                replace PB := Box.alloc PB (.cells #[] 145)
                have O1 : (V2.alloc (.cells #[] 145)).ownsRow V2.heap.size 145 5 (.slice (some ⟨V2.heap.size, 0, none⟩) 0 0) 0 [] := World.ownsRow_lit (base := V2.heap.size) (e := 145) (size := 5) V2 #[] 0 (Nat.le_refl _) (by unfold maxLen; omega) rfl
                have yV2 : V2.heap.size < (V2.alloc (.cells #[] 145)).heap.size := by simp
                have zV2 := Ext.size hE
                generalize V2.alloc (.cells #[] 145) = V3 at *
                replace hE := hE'
                clear hE'
                have zV3 := Ext.size hE
                refine wpAnyH_ready (rs := [7]) (by kernel_rfl) (by simp) ?_
                refine (AllReadyH.cons rfl (fun K hK => ?_) AllReadyH.nil)
                · refine step_append_at rfl (.tmp 42) (.tmp 44) 28 rfl V2.heap.size 145 ti (.agg zeroM) 5 48 Tryz.underlying28 hin hz0 hz1 hz2 rfl (by decide) (.slice (some ⟨V2.heap.size, 0, none⟩) 0 0) 0 [] (by simp [Act.eval, Act.put]) O1 ao n cap (cellsM ms) (by simp [Act.eval, Act.put]) hnone.out P2.out (fun ad h j u hu => hE.cellOf (HA.out ad h j u hu)) P1.out (by unfold maxLen; omega) (by omega) (by omega) ?_
                  intro v1 V4 hown hgrow hat
                  have zG := hgrow.size
                  have hE' : Ext w5 V4 := row_grown (w0 := w5) O1 hgrow (by omega) hE
                  have OV := Lib.hid (show V4.ownsRow V2.heap.size 145 5 v1 n (cellsM ms) by simpa using hown)
                  replace E1 := box_grown9 E1 hgrow (by simp [Value.ownBlock]; omega)
                  replace PB := box_grown9 PB hgrow (by simp [Value.ownBlock]; omega)
                  have NV : v1.ownBlock ≠ some V1.heap.size := by rcases hat with e | e <;> rw [e] <;> simp [Value.ownBlock] <;> omega
                  clear hown O1 hat hgrow
                  refine hK.out _ _ hE' (fun hHeld => ?_)
                  clear hK K
                  (try simp only [Act.put, Ord.a, Ord.b, Ord.c])
                  replace hE := hE'
                  clear hE'
                  have zV4 := Ext.size hE
                  refine wpAnyH_ready (rs := [10]) (by kernel_rfl) (by simp) ?_
                  refine (AllReadyH.cons rfl (fun K hK => ?_) AllReadyH.nil)
                  · refine step_append_at rfl (.tmp 45) (.tmp 47) 28 rfl V2.heap.size 145 ti (.agg zeroM) 5 48 Tryz.underlying28 hin hz0 hz1 hz2 rfl (by decide) v1 n (cellsM ms) (by simp [Act.eval, Act.put]) OV.out (some ⟨V0.heap.size, 0, none⟩) 1 1 [.string m.n, .int .i64 m.x, .int .i64 m.y, .int .i64 m.s, .int .i64 m.z] (by simp [Act.eval, Act.put]) (fun h => by cases h) rfl (fun ad h j u hu => by cases h; exact box_at E1 j u hu) (ones9 m) (by unfold maxLen; omega) (by omega) (by omega) ?_
                    intro v2 V5 hown hgrow hat
                    have zG := hgrow.size
                    have hE' : Ext w5 V5 := row_grown (w0 := w5) OV.out hgrow (by omega) hE
                    have OW0 : OwnM V5 (N + 1) v2 (ms ++ [m]) := row_mono (own_snoc (show V5.ownsRow V2.heap.size 145 5 v2 (ms.length + 1) (cellsM ms ++ [.string m.n, .int .i64 m.x, .int .i64 m.y, .int .i64 m.s, .int .i64 m.z]) by rw [← Hn.out]; exact hown)) (by omega)
                    replace PB := box_grown9 PB hgrow NV
                    obtain ⟨a1, cap1, rfl, -⟩ := OW0.mks HFit.out
                    rw [hl1] at OW0 ⊢
                    have OW := Lib.hid OW0
                    clear hown OV hat hgrow E1 OW0
                    refine hK.out _ _ hE' (fun hHeld => ?_)
                    clear hK K
                    (try simp only [Act.put, Ord.a, Ord.b, Ord.c])
                    replace hE := hE'
                    clear hE'
                    have zV5 := Ext.size hE
                    refine Ord.K 11 49 ?_
                    refine wpAnyH_ready (rs := [13]) (by kernel_rfl) (by simp) ?_
                    refine (AllReadyH.cons rfl (fun K hK => ?_) AllReadyH.nil)
                    obtain ⟨⟨u0, u1, u2, u3, u4, u5, u6, u7, u8⟩, g0, g1, g2, g3, g4, g5, g6, g7, g8⟩ := Box.nine PB
                    have NB := OwnM.apart OW.out (by simp) u0
                    go_simp
                    have hE' : Ext w5 (Crs.put9 V5 V1.heap.size (.int .i64 l.a) (.int .i64 l.b) (.int .i64 l.c) (.int .i64 l.d) (.int .i64 k.a) (.int .i64 k.b) (.int .i64 k.c) (.int .i64 k.d) (.slice a1 (n + 1) cap1)) := Ext.put9 hE (by omega) (.int .i64 l.a) (.int .i64 l.b) (.int .i64 l.c) (.int .i64 l.d) (.int .i64 k.a) (.int .i64 k.b) (.int .i64 k.c) (.int .i64 k.d) (.slice a1 (n + 1) cap1)
                    refine hK.out _ _ hE' (fun hHeld => ?_)
                    clear hK K
                    (try simp only [Act.put, Ord.a, Ord.b, Ord.c])
                    have QB := Box.put9 PB (.int .i64 l.a) (.int .i64 l.b) (.int .i64 l.c) (.int .i64 l.d) (.int .i64 k.a) (.int .i64 k.b) (.int .i64 k.c) (.int .i64 k.d) (.slice a1 (n + 1) cap1)
                    have QO := OW.out.chg (Chg.put9 (n := V1.heap.size) (.int .i64 l.a) (.int .i64 l.b) (.int .i64 l.c) (.int .i64 l.d) (.int .i64 k.a) (.int .i64 k.b) (.int .i64 k.c) (.int .i64 k.d) (.slice a1 (n + 1) cap1)) NB
                    refine wpAnyH_done (by kernel_rfl) ?_ _
                    go_wp2_with fail
                    go_meet
                    exact ⟨_, a1, cap1, rfl, QB, QO, NB, by omega, hE'⟩
          · go_simp
            have hE' : Ext w5 (V0.alloc (.cells (cellsC zeroL zeroL (.slice none 0 0)).toArray 30)) := hE.alloc _
            refine hK.out _ _ hE' (fun hHeld => ?_)
            clear hK K
            (try simp only [Act.put, Ord.a, Ord.b, Ord.c])
            have PB := Box.new (w := V0) (n := V0.heap.size) (vs := cellsC zeroL zeroL (.slice none 0 0)) (t := 30) rfl
            have yV0 : V0.heap.size < (V0.alloc (.cells (cellsC zeroL zeroL (.slice none 0 0)).toArray 30)).heap.size := by simp
            have zV0 := Ext.size hE
            generalize V0.alloc (.cells (cellsC zeroL zeroL (.slice none 0 0)).toArray 30) = V1 at *
            replace hE := hE'
            clear hE'
            have zV1 := Ext.size hE
            refine wpAnyH_ready (rs := [4, 9]) (by kernel_rfl) (by simp) ?_
            refine (AllReadyH.cons rfl (fun K hK => ?_) (AllReadyH.cons rfl (fun K hK => ?_) AllReadyH.nil))
            · go_simp
              have hE' : Ext w5 (V1.alloc (.cells #[] 145)) := hE.alloc _
              refine hK.out _ _ hE' (fun hHeld => ?_)
              clear hK K
              (try simp only [Act.put, Ord.a, Ord.b, Ord.c])
              replace PB := Box.alloc PB (.cells #[] 145)
              have O1 : (V1.alloc (.cells #[] 145)).ownsRow V1.heap.size 145 5 (.slice (some ⟨V1.heap.size, 0, none⟩) 0 0) 0 [] := World.ownsRow_lit (base := V1.heap.size) (e := 145) (size := 5) V1 #[] 0 (Nat.le_refl _) (by unfold maxLen; omega) rfl
              have yV1 : V1.heap.size < (V1.alloc (.cells #[] 145)).heap.size := by simp
              have zV1 := Ext.size hE
              generalize V1.alloc (.cells #[] 145) = V2 at *
              replace hE := hE'
              clear hE'
              have zV2 := Ext.size hE
              refine wpAnyH_ready (rs := [7, 9]) (by kernel_rfl) (by simp) ?_
              refine (AllReadyH.cons rfl (fun K hK => ?_) (AllReadyH.cons rfl (fun K hK => ?_) AllReadyH.nil))
              · refine step_append_at rfl (.tmp 42) (.tmp 44) 28 rfl V1.heap.size 145 ti (.agg zeroM) 5 48 Tryz.underlying28 hin hz0 hz1 hz2 rfl (by decide) (.slice (some ⟨V1.heap.size, 0, none⟩) 0 0) 0 [] (by simp [Act.eval, Act.put]) O1 ao n cap (cellsM ms) (by simp [Act.eval, Act.put]) hnone.out P2.out (fun ad h j u hu => hE.cellOf (HA.out ad h j u hu)) P1.out (by unfold maxLen; omega) (by omega) (by omega) ?_
                intro v1 V3 hown hgrow hat
                have zG := hgrow.size
                have hE' : Ext w5 V3 := row_grown (w0 := w5) O1 hgrow (by omega) hE
                have OV := Lib.hid (show V3.ownsRow V1.heap.size 145 5 v1 n (cellsM ms) by simpa using hown)
                replace PB := box_grown9 PB hgrow (by simp [Value.ownBlock]; omega)
                have NV : v1.ownBlock ≠ some V0.heap.size := by rcases hat with e | e <;> rw [e] <;> simp [Value.ownBlock] <;> omega
                clear hown O1 hat hgrow
                refine hK.out _ _ hE' (fun hHeld => ?_)
                clear hK K
                (try simp only [Act.put, Ord.a, Ord.b, Ord.c])
                replace hE := hE'
                clear hE'
                have zV3 := Ext.size hE
                refine wpAnyH_ready (rs := [9]) (by kernel_rfl) (by simp) ?_
                refine (AllReadyH.cons rfl (fun K hK => ?_) AllReadyH.nil)
                · go_simp
                  have hE' : Ext w5 (V3.alloc (.cells #[.string m.n, .int .i64 m.x, .int .i64 m.y, .int .i64 m.s, .int .i64 m.z] 145)) := hE.alloc _
                  refine hK.out _ _ hE' (fun hHeld => ?_)
                  clear hK K
                  (try simp only [Act.put, Ord.a, Ord.b, Ord.c])
                  replace OV := Lib.hid (row_ext OV.out ((Ext.refl V3).alloc (.cells #[.string m.n, .int .i64 m.x, .int .i64 m.y, .int .i64 m.s, .int .i64 m.z] 145)))
                  replace PB := Box.alloc PB (.cells #[.string m.n, .int .i64 m.x, .int .i64 m.y, .int .i64 m.s, .int .i64 m.z] 145)
                  have E1 := Box.new (w := V3) (n := V3.heap.size) (vs := [.string m.n, .int .i64 m.x, .int .i64 m.y, .int .i64 m.s, .int .i64 m.z]) (t := 145) rfl
                  have yV3 : V3.heap.size < (V3.alloc (.cells #[.string m.n, .int .i64 m.x, .int .i64 m.y, .int .i64 m.s, .int .i64 m.z] 145)).heap.size := by simp
                  have zV3 := Ext.size hE
                  generalize V3.alloc (.cells #[.string m.n, .int .i64 m.x, .int .i64 m.y, .int .i64 m.s, .int .i64 m.z] 145) = V4 at *
                  replace hE := hE'
                  clear hE'
                  have zV4 := Ext.size hE
                  refine wpAnyH_ready (rs := [10]) (by kernel_rfl) (by simp) ?_
                  refine (AllReadyH.cons rfl (fun K hK => ?_) AllReadyH.nil)
                  · refine step_append_at rfl (.tmp 45) (.tmp 47) 28 rfl V1.heap.size 145 ti (.agg zeroM) 5 48 Tryz.underlying28 hin hz0 hz1 hz2 rfl (by decide) v1 n (cellsM ms) (by simp [Act.eval, Act.put]) OV.out (some ⟨V3.heap.size, 0, none⟩) 1 1 [.string m.n, .int .i64 m.x, .int .i64 m.y, .int .i64 m.s, .int .i64 m.z] (by simp [Act.eval, Act.put]) (fun h => by cases h) rfl (fun ad h j u hu => by cases h; exact box_at E1 j u hu) (ones9 m) (by unfold maxLen; omega) (by omega) (by omega) ?_
                    intro v2 V5 hown hgrow hat
                    have zG := hgrow.size
                    have hE' : Ext w5 V5 := row_grown (w0 := w5) OV.out hgrow (by omega) hE
                    have OW0 : OwnM V5 (N + 1) v2 (ms ++ [m]) := row_mono (own_snoc (show V5.ownsRow V1.heap.size 145 5 v2 (ms.length + 1) (cellsM ms ++ [.string m.n, .int .i64 m.x, .int .i64 m.y, .int .i64 m.s, .int .i64 m.z]) by rw [← Hn.out]; exact hown)) (by omega)
                    replace PB := box_grown9 PB hgrow NV
                    obtain ⟨a1, cap1, rfl, -⟩ := OW0.mks HFit.out
                    rw [hl1] at OW0 ⊢
                    have OW := Lib.hid OW0
                    clear hown OV hat hgrow E1 OW0
                    refine hK.out _ _ hE' (fun hHeld => ?_)
                    clear hK K
                    (try simp only [Act.put, Ord.a, Ord.b, Ord.c])
                    replace hE := hE'
                    clear hE'
                    have zV5 := Ext.size hE
                    refine Ord.K 11 49 ?_
                    refine wpAnyH_ready (rs := [13]) (by kernel_rfl) (by simp) ?_
                    refine (AllReadyH.cons rfl (fun K hK => ?_) AllReadyH.nil)
                    obtain ⟨⟨u0, u1, u2, u3, u4, u5, u6, u7, u8⟩, g0, g1, g2, g3, g4, g5, g6, g7, g8⟩ := Box.nine PB
                    have NB := OwnM.apart OW.out (by simp) u0
                    go_simp
                    have hE' : Ext w5 (Crs.put9 V5 V0.heap.size (.int .i64 l.a) (.int .i64 l.b) (.int .i64 l.c) (.int .i64 l.d) (.int .i64 k.a) (.int .i64 k.b) (.int .i64 k.c) (.int .i64 k.d) (.slice a1 (n + 1) cap1)) := Ext.put9 hE (by omega) (.int .i64 l.a) (.int .i64 l.b) (.int .i64 l.c) (.int .i64 l.d) (.int .i64 k.a) (.int .i64 k.b) (.int .i64 k.c) (.int .i64 k.d) (.slice a1 (n + 1) cap1)
                    refine hK.out _ _ hE' (fun hHeld => ?_)
                    clear hK K
                    (try simp only [Act.put, Ord.a, Ord.b, Ord.c])
                    have QB := Box.put9 PB (.int .i64 l.a) (.int .i64 l.b) (.int .i64 l.c) (.int .i64 l.d) (.int .i64 k.a) (.int .i64 k.b) (.int .i64 k.c) (.int .i64 k.d) (.slice a1 (n + 1) cap1)
                    have QO := OW.out.chg (Chg.put9 (n := V0.heap.size) (.int .i64 l.a) (.int .i64 l.b) (.int .i64 l.c) (.int .i64 l.d) (.int .i64 k.a) (.int .i64 k.b) (.int .i64 k.c) (.int .i64 k.d) (.slice a1 (n + 1) cap1)) NB
                    refine wpAnyH_done (by kernel_rfl) ?_ _
                    go_wp2_with fail
                    go_meet
                    exact ⟨_, a1, cap1, rfl, QB, QO, NB, by omega, hE'⟩
              · go_simp
                have hE' : Ext w5 (V2.alloc (.cells #[.string m.n, .int .i64 m.x, .int .i64 m.y, .int .i64 m.s, .int .i64 m.z] 145)) := hE.alloc _
                refine hK.out _ _ hE' (fun hHeld => ?_)
                clear hK K
                (try simp only [Act.put, Ord.a, Ord.b, Ord.c])
                replace O1 := row_ext O1 ((Ext.refl V2).alloc (.cells #[.string m.n, .int .i64 m.x, .int .i64 m.y, .int .i64 m.s, .int .i64 m.z] 145))
                replace PB := Box.alloc PB (.cells #[.string m.n, .int .i64 m.x, .int .i64 m.y, .int .i64 m.s, .int .i64 m.z] 145)
                have E1 := Box.new (w := V2) (n := V2.heap.size) (vs := [.string m.n, .int .i64 m.x, .int .i64 m.y, .int .i64 m.s, .int .i64 m.z]) (t := 145) rfl
                have yV2 : V2.heap.size < (V2.alloc (.cells #[.string m.n, .int .i64 m.x, .int .i64 m.y, .int .i64 m.s, .int .i64 m.z] 145)).heap.size := by simp
                have zV2 := Ext.size hE
                generalize V2.alloc (.cells #[.string m.n, .int .i64 m.x, .int .i64 m.y, .int .i64 m.s, .int .i64 m.z] 145) = V3 at *
                replace hE := hE'
                clear hE'
                have zV3 := Ext.size hE
                refine wpAnyH_ready (rs := [7]) (by kernel_rfl) (by simp) ?_
                refine (AllReadyH.cons rfl (fun K hK => ?_) AllReadyH.nil)
                · refine step_append_at rfl (.tmp 42) (.tmp 44) 28 rfl V1.heap.size 145 ti (.agg zeroM) 5 48 Tryz.underlying28 hin hz0 hz1 hz2 rfl (by decide) (.slice (some ⟨V1.heap.size, 0, none⟩) 0 0) 0 [] (by simp [Act.eval, Act.put]) O1 ao n cap (cellsM ms) (by simp [Act.eval, Act.put]) hnone.out P2.out (fun ad h j u hu => hE.cellOf (HA.out ad h j u hu)) P1.out (by unfold maxLen; omega) (by omega) (by omega) ?_
                  intro v1 V4 hown hgrow hat
                  have zG := hgrow.size
                  have hE' : Ext w5 V4 := row_grown (w0 := w5) O1 hgrow (by omega) hE
                  have OV := Lib.hid (show V4.ownsRow V1.heap.size 145 5 v1 n (cellsM ms) by simpa using hown)
                  replace E1 := box_grown9 E1 hgrow (by simp [Value.ownBlock]; omega)
                  replace PB := box_grown9 PB hgrow (by simp [Value.ownBlock]; omega)
                  have NV : v1.ownBlock ≠ some V0.heap.size := by rcases hat with e | e <;> rw [e] <;> simp [Value.ownBlock] <;> omega
                  clear hown O1 hat hgrow
                  refine hK.out _ _ hE' (fun hHeld => ?_)
                  clear hK K
                  (try simp only [Act.put, Ord.a, Ord.b, Ord.c])
                  replace hE := hE'
                  clear hE'
                  have zV4 := Ext.size hE
                  refine wpAnyH_ready (rs := [10]) (by kernel_rfl) (by simp) ?_
                  refine (AllReadyH.cons rfl (fun K hK => ?_) AllReadyH.nil)
                  · refine step_append_at rfl (.tmp 45) (.tmp 47) 28 rfl V1.heap.size 145 ti (.agg zeroM) 5 48 Tryz.underlying28 hin hz0 hz1 hz2 rfl (by decide) v1 n (cellsM ms) (by simp [Act.eval, Act.put]) OV.out (some ⟨V2.heap.size, 0, none⟩) 1 1 [.string m.n, .int .i64 m.x, .int .i64 m.y, .int .i64 m.s, .int .i64 m.z] (by simp [Act.eval, Act.put]) (fun h => by cases h) rfl (fun ad h j u hu => by cases h; exact box_at E1 j u hu) (ones9 m) (by unfold maxLen; omega) (by omega) (by omega) ?_
                    intro v2 V5 hown hgrow hat
                    have zG := hgrow.size
                    have hE' : Ext w5 V5 := row_grown (w0 := w5) OV.out hgrow (by omega) hE
                    have OW0 : OwnM V5 (N + 1) v2 (ms ++ [m]) := row_mono (own_snoc (show V5.ownsRow V1.heap.size 145 5 v2 (ms.length + 1) (cellsM ms ++ [.string m.n, .int .i64 m.x, .int .i64 m.y, .int .i64 m.s, .int .i64 m.z]) by rw [← Hn.out]; exact hown)) (by omega)
                    replace PB := box_grown9 PB hgrow NV
                    obtain ⟨a1, cap1, rfl, -⟩ := OW0.mks HFit.out
                    rw [hl1] at OW0 ⊢
                    have OW := Lib.hid OW0
                    clear hown OV hat hgrow E1 OW0
                    refine hK.out _ _ hE' (fun hHeld => ?_)
                    clear hK K
                    (try simp only [Act.put, Ord.a, Ord.b, Ord.c])
                    replace hE := hE'
                    clear hE'
                    have zV5 := Ext.size hE
                    refine Ord.K 11 49 ?_
                    refine wpAnyH_ready (rs := [13]) (by kernel_rfl) (by simp) ?_
                    refine (AllReadyH.cons rfl (fun K hK => ?_) AllReadyH.nil)
                    obtain ⟨⟨u0, u1, u2, u3, u4, u5, u6, u7, u8⟩, g0, g1, g2, g3, g4, g5, g6, g7, g8⟩ := Box.nine PB
                    have NB := OwnM.apart OW.out (by simp) u0
                    go_simp
                    have hE' : Ext w5 (Crs.put9 V5 V0.heap.size (.int .i64 l.a) (.int .i64 l.b) (.int .i64 l.c) (.int .i64 l.d) (.int .i64 k.a) (.int .i64 k.b) (.int .i64 k.c) (.int .i64 k.d) (.slice a1 (n + 1) cap1)) := Ext.put9 hE (by omega) (.int .i64 l.a) (.int .i64 l.b) (.int .i64 l.c) (.int .i64 l.d) (.int .i64 k.a) (.int .i64 k.b) (.int .i64 k.c) (.int .i64 k.d) (.slice a1 (n + 1) cap1)
                    refine hK.out _ _ hE' (fun hHeld => ?_)
                    clear hK K
                    (try simp only [Act.put, Ord.a, Ord.b, Ord.c])
                    have QB := Box.put9 PB (.int .i64 l.a) (.int .i64 l.b) (.int .i64 l.c) (.int .i64 l.d) (.int .i64 k.a) (.int .i64 k.b) (.int .i64 k.c) (.int .i64 k.d) (.slice a1 (n + 1) cap1)
                    have QO := OW.out.chg (Chg.put9 (n := V0.heap.size) (.int .i64 l.a) (.int .i64 l.b) (.int .i64 l.c) (.int .i64 l.d) (.int .i64 k.a) (.int .i64 k.b) (.int .i64 k.c) (.int .i64 k.d) (.slice a1 (n + 1) cap1)) NB
                    refine wpAnyH_done (by kernel_rfl) ?_ _
                    go_wp2_with fail
                    go_meet
                    exact ⟨_, a1, cap1, rfl, QB, QO, NB, by omega, hE'⟩
            · go_simp
              have hE' : Ext w5 (V1.alloc (.cells #[.string m.n, .int .i64 m.x, .int .i64 m.y, .int .i64 m.s, .int .i64 m.z] 145)) := hE.alloc _
              refine hK.out _ _ hE' (fun hHeld => ?_)
              clear hK K
              (try simp only [Act.put, Ord.a, Ord.b, Ord.c])
              replace PB := Box.alloc PB (.cells #[.string m.n, .int .i64 m.x, .int .i64 m.y, .int .i64 m.s, .int .i64 m.z] 145)
              have E1 := Box.new (w := V1) (n := V1.heap.size) (vs := [.string m.n, .int .i64 m.x, .int .i64 m.y, .int .i64 m.s, .int .i64 m.z]) (t := 145) rfl
              have yV1 : V1.heap.size < (V1.alloc (.cells #[.string m.n, .int .i64 m.x, .int .i64 m.y, .int .i64 m.s, .int .i64 m.z] 145)).heap.size := by simp
              have zV1 := Ext.size hE
              generalize V1.alloc (.cells #[.string m.n, .int .i64 m.x, .int .i64 m.y, .int .i64 m.s, .int .i64 m.z] 145) = V2 at *
              replace hE := hE'
              clear hE'
              have zV2 := Ext.size hE
              refine wpAnyH_ready (rs := [4]) (by kernel_rfl) (by simp) ?_
              refine (AllReadyH.cons rfl (fun K hK => ?_) AllReadyH.nil)
              · go_simp
                have hE' : Ext w5 (V2.alloc (.cells #[] 145)) := hE.alloc _
                refine hK.out _ _ hE' (fun hHeld => ?_)
                clear hK K
                (try simp only [Act.put, Ord.a, Ord.b, Ord.c])
                replace E1 := Box.alloc E1 (.cells #[] 145)
                replace PB := Box.alloc PB (.cells #[] 145)
                have O1 : (V2.alloc (.cells #[] 145)).ownsRow V2.heap.size 145 5 (.slice (some ⟨V2.heap.size, 0, none⟩) 0 0) 0 [] := World.ownsRow_lit (base := V2.heap.size) (e := 145) (size := 5) V2 #[] 0 (Nat.le_refl _) (by unfold maxLen; omega) rfl
                have yV2 : V2.heap.size < (V2.alloc (.cells #[] 145)).heap.size := by simp
                have zV2 := Ext.size hE
                generalize V2.alloc (.cells #[] 145) = V3 at *
                replace hE := hE'
                clear hE'
                have zV3 := Ext.size hE
                refine wpAnyH_ready (rs := [7]) (by kernel_rfl) (by simp) ?_
                refine (AllReadyH.cons rfl (fun K hK => ?_) AllReadyH.nil)
                · refine step_append_at rfl (.tmp 42) (.tmp 44) 28 rfl V2.heap.size 145 ti (.agg zeroM) 5 48 Tryz.underlying28 hin hz0 hz1 hz2 rfl (by decide) (.slice (some ⟨V2.heap.size, 0, none⟩) 0 0) 0 [] (by simp [Act.eval, Act.put]) O1 ao n cap (cellsM ms) (by simp [Act.eval, Act.put]) hnone.out P2.out (fun ad h j u hu => hE.cellOf (HA.out ad h j u hu)) P1.out (by unfold maxLen; omega) (by omega) (by omega) ?_
                  intro v1 V4 hown hgrow hat
                  have zG := hgrow.size
                  have hE' : Ext w5 V4 := row_grown (w0 := w5) O1 hgrow (by omega) hE
                  have OV := Lib.hid (show V4.ownsRow V2.heap.size 145 5 v1 n (cellsM ms) by simpa using hown)
                  replace E1 := box_grown9 E1 hgrow (by simp [Value.ownBlock]; omega)
                  replace PB := box_grown9 PB hgrow (by simp [Value.ownBlock]; omega)
                  have NV : v1.ownBlock ≠ some V0.heap.size := by rcases hat with e | e <;> rw [e] <;> simp [Value.ownBlock] <;> omega
                  clear hown O1 hat hgrow
                  refine hK.out _ _ hE' (fun hHeld => ?_)
                  clear hK K
                  (try simp only [Act.put, Ord.a, Ord.b, Ord.c])
                  replace hE := hE'
                  clear hE'
                  have zV4 := Ext.size hE
                  refine wpAnyH_ready (rs := [10]) (by kernel_rfl) (by simp) ?_
                  refine (AllReadyH.cons rfl (fun K hK => ?_) AllReadyH.nil)
                  · refine step_append_at rfl (.tmp 45) (.tmp 47) 28 rfl V2.heap.size 145 ti (.agg zeroM) 5 48 Tryz.underlying28 hin hz0 hz1 hz2 rfl (by decide) v1 n (cellsM ms) (by simp [Act.eval, Act.put]) OV.out (some ⟨V1.heap.size, 0, none⟩) 1 1 [.string m.n, .int .i64 m.x, .int .i64 m.y, .int .i64 m.s, .int .i64 m.z] (by simp [Act.eval, Act.put]) (fun h => by cases h) rfl (fun ad h j u hu => by cases h; exact box_at E1 j u hu) (ones9 m) (by unfold maxLen; omega) (by omega) (by omega) ?_
                    intro v2 V5 hown hgrow hat
                    have zG := hgrow.size
                    have hE' : Ext w5 V5 := row_grown (w0 := w5) OV.out hgrow (by omega) hE
                    have OW0 : OwnM V5 (N + 1) v2 (ms ++ [m]) := row_mono (own_snoc (show V5.ownsRow V2.heap.size 145 5 v2 (ms.length + 1) (cellsM ms ++ [.string m.n, .int .i64 m.x, .int .i64 m.y, .int .i64 m.s, .int .i64 m.z]) by rw [← Hn.out]; exact hown)) (by omega)
                    replace PB := box_grown9 PB hgrow NV
                    obtain ⟨a1, cap1, rfl, -⟩ := OW0.mks HFit.out
                    rw [hl1] at OW0 ⊢
                    have OW := Lib.hid OW0
                    clear hown OV hat hgrow E1 OW0
                    refine hK.out _ _ hE' (fun hHeld => ?_)
                    clear hK K
                    (try simp only [Act.put, Ord.a, Ord.b, Ord.c])
                    replace hE := hE'
                    clear hE'
                    have zV5 := Ext.size hE
                    refine Ord.K 11 49 ?_
                    refine wpAnyH_ready (rs := [13]) (by kernel_rfl) (by simp) ?_
                    refine (AllReadyH.cons rfl (fun K hK => ?_) AllReadyH.nil)
                    obtain ⟨⟨u0, u1, u2, u3, u4, u5, u6, u7, u8⟩, g0, g1, g2, g3, g4, g5, g6, g7, g8⟩ := Box.nine PB
                    have NB := OwnM.apart OW.out (by simp) u0
                    go_simp
                    have hE' : Ext w5 (Crs.put9 V5 V0.heap.size (.int .i64 l.a) (.int .i64 l.b) (.int .i64 l.c) (.int .i64 l.d) (.int .i64 k.a) (.int .i64 k.b) (.int .i64 k.c) (.int .i64 k.d) (.slice a1 (n + 1) cap1)) := Ext.put9 hE (by omega) (.int .i64 l.a) (.int .i64 l.b) (.int .i64 l.c) (.int .i64 l.d) (.int .i64 k.a) (.int .i64 k.b) (.int .i64 k.c) (.int .i64 k.d) (.slice a1 (n + 1) cap1)
                    refine hK.out _ _ hE' (fun hHeld => ?_)
                    clear hK K
                    (try simp only [Act.put, Ord.a, Ord.b, Ord.c])
                    have QB := Box.put9 PB (.int .i64 l.a) (.int .i64 l.b) (.int .i64 l.c) (.int .i64 l.d) (.int .i64 k.a) (.int .i64 k.b) (.int .i64 k.c) (.int .i64 k.d) (.slice a1 (n + 1) cap1)
                    have QO := OW.out.chg (Chg.put9 (n := V0.heap.size) (.int .i64 l.a) (.int .i64 l.b) (.int .i64 l.c) (.int .i64 l.d) (.int .i64 k.a) (.int .i64 k.b) (.int .i64 k.c) (.int .i64 k.d) (.slice a1 (n + 1) cap1)) NB
                    refine wpAnyH_done (by kernel_rfl) ?_ _
                    go_wp2_with fail
                    go_meet
                    exact ⟨_, a1, cap1, rfl, QB, QO, NB, by omega, hE'⟩
        case rest =>
          obtain ⟨Q, a1, cap1, rfl, hQB, hQO, hQn, hQ, hx⟩ := hcut
          obtain ⟨w6, rfl⟩ : ∃ w6 : World, w6 = wc := ⟨_, rfl⟩
          have HC6 := Lib.hid (HC5.out.ext hx)
          have HN6 := Lib.hid (HN5.out.ext hx)
          have HR6 := Lib.hid (HR5.out.ext hx)
          have HO6 := Lib.hid (HO5.out.ext hx)
          have HS6 := Lib.hid (HS5.out.ext hx)
          have HQB := Lib.hid hQB
          have HQO := Lib.hid hQO
          have z6 := Ext.size hx
          obtain ⟨a2, cap2, hv2, hM⟩ := hQO.mks HFm.out
          rw [hl1] at hv2
          cases hv2
          have KV := Lib.hid (isCourse_spec l k a1 cap1 (ms ++ [m]) w6 hM)
          rw [hl1] at KV
          obtain ⟨⟨p0, p1, p2, p3, p4, p5, p6, p7, p8⟩, _⟩ := Box.nine hQB
          clear eK eK0 eK1 eK2 eK3 eK4 eK5 eK6 eK7 eP0 eP1 eP2 eP3 eP4 hx hQB hQO hM HC5 HN5 HR5 HO5 HS5 HA
          go_wp2_with fail
          have TI : IntKind.i64.wrap ((i : Int) - 1) = ((i - 1 : Nat) : Int) := by rw [IntWalk.i64_in _ (by omega)]; omega
          cases hcr : crB l k (ms ++ [m])
          · rw [hcr] at KV
            refine KV.out.mono ?_
            rintro e w7 ⟨rfl, hy⟩
            have HC7 := Lib.hid (HC6.out.ext hy)
            have HN7 := Lib.hid (HN6.out.ext hy)
            have HR7 := Lib.hid (HR6.out.ext hy)
            have HO7 := Lib.hid (HO6.out.ext hy)
            have HS7 := Lib.hid (HS6.out.ext hy)
            clear p0 p1 p2 p3 p4 p5 p6 p7 p8 hy KV HC6 HN6 HR6 HO6 HS6 HQB HQO hcr
            go_wp2
            go_roundw
            case rel => exact ⟨l, k, _, ms, i - 1, by go_num, by have := Hn.out; omega, HFit.out, HO7.out, HC7.out, HN7.out, HR7.out, HS7.out⟩
            case measure => simp [intOf]; omega
          · rw [hcr] at KV
            refine KV.out.mono ?_
            rintro e w7 ⟨rfl, hy⟩
            have HC7 := Lib.hid (HC6.out.ext hy)
            have HN7 := Lib.hid (HN6.out.ext hy)
            have HR7 := Lib.hid (HR6.out.ext hy)
            have HO7 := Lib.hid (HQO.out.ext hy)
            have HS7 := Lib.hid (HS6.out.ext hy)
            have HQ7 := Lib.hid (HQB.out.ext hy)
            have z7 := Ext.size hy
            clear p0 p1 p2 p3 p4 p5 p6 p7 p8 hy KV HC6 HN6 HR6 HO6 HS6 HQB HQO hcr
            obtain ⟨⟨p0, p1, p2, p3, p4, p5, p6, p7, p8⟩, _⟩ := Box.nine HQ7.out
            obtain ⟨⟨t0, t1, t2, t3, t4, t5, t6, t7, t8⟩, f0, f1, f2, f3, f4, f5, f6, f7, f8⟩ := Box.nine HC7.out
            have CB8 := Lib.hid (Box.put9 HC7.out (.int .i64 l.a) (.int .i64 l.b) (.int .i64 l.c) (.int .i64 l.d) (.int .i64 k.a) (.int .i64 k.b) (.int .i64 k.c) (.int .i64 k.d) (.slice a1 (n + 1) cap1))
            have NB8 := Lib.hid (Box.put9_away HN7.out (n := C) (by omega) (.int .i64 l.a) (.int .i64 l.b) (.int .i64 l.c) (.int .i64 l.d) (.int .i64 k.a) (.int .i64 k.b) (.int .i64 k.c) (.int .i64 k.d) (.slice a1 (n + 1) cap1))
            have RB8 := Lib.hid (Box.put9_away HR7.out (n := C) (by omega) (.int .i64 l.a) (.int .i64 l.b) (.int .i64 l.c) (.int .i64 l.d) (.int .i64 k.a) (.int .i64 k.b) (.int .i64 k.c) (.int .i64 k.d) (.slice a1 (n + 1) cap1))
            have S8 := Lib.hid (SC.put9 HS7.out (n := C) (by omega) (by omega) (.int .i64 l.a) (.int .i64 l.b) (.int .i64 l.c) (.int .i64 l.d) (.int .i64 k.a) (.int .i64 k.b) (.int .i64 k.c) (.int .i64 k.d) (.slice a1 (n + 1) cap1))
            have O8 := Lib.hid (HO7.out.chg (Chg.put9 (n := C) (.int .i64 l.a) (.int .i64 l.b) (.int .i64 l.c) (.int .i64 l.d) (.int .i64 k.a) (.int .i64 k.b) (.int .i64 k.c) (.int .i64 k.d) (.slice a1 (n + 1) cap1)) (HO7.out.block (by omega)))
            clear HC7 HN7 HR7 HO7 HS7 HQ7
            go_wp2
            go_roundw
            case rel => exact ⟨l, k, _, ms ++ [m], i - 1, by go_num, by rw [hl1]; omega, HFit'.out, O8.out, CB8.out, NB8.out, RB8.out, S8.out⟩
            case measure => simp [intOf]; omega
    · obtain rfl : i = 0 := by omega
      obtain ⟨wo, rfl⟩ : ∃ wo : World, wo = wr := ⟨_, rfl⟩
      go_wp2
      go_loopw [8] (fun n wr => RelCp w B C N wr) (fun n wr => 1 - lenC wr C)
      case atStart => exact ⟨l, k, _, ms, by have := Hn.out; omega, HFit.out, HO.out, HCb.out, HRb.out, HSC.out, HNb.out.lt⟩
      case round =>
        clear HFit HO HCb HRb HSC HA0 HNb Hn hnone lN lB zW hi4
        obtain ⟨l, k, v, ms, hl4, hFit, hO, hCb, hRb, hSC, hNl⟩ := hrel
        obtain ⟨ao, cap, rfl, hnone, hA⟩ := hO.src
        obtain ⟨n, hn⟩ : ∃ n, n = ms.length := ⟨_, rfl⟩
        rw [← hn] at hl4 hnone
        have Hn := Lib.hid hn
        clear hn
        have HO := Lib.hid hO
        have HC := Lib.hid hCb
        have HR := Lib.hid hRb
        have HS := Lib.hid hSC
        have HFit := Lib.hid hFit
        have lB := hSC.lt
        have lC := hCb.lt
        have zW := hSC.size
        obtain ⟨⟨c0, c1, c2, c3, c4, c5, c6, c7, c8⟩, f0, f1, f2, f3, f4, f5, f6, f7, f8⟩ := Box.nine hCb
        clear hO hCb hRb hSC hFit hA
        rw [← Hn.out] at c8
        have hlen := Lib.hid (lenC_eq c8)
        by_cases h0 : n = 0
        · have t0 : ((n : Int) == 0) = true := beq_iff_eq.2 (by omega)
          go_wp2_with fail
          refine (middle_weak _ _ _ _ _).mono ?_
          rintro e w5 ⟨⟨x, y, rfl, hx, hy⟩, hE⟩
          have HC5 := Lib.hid (HC.out.ext hE)
          have HR5 := Lib.hid (HR.out.ext hE)
          have HS5 := Lib.hid (HS.out.ext hE)
          have lC5 := HC5.out.lt
          have lB5 := HS5.out.lt
          clear c0 c1 c2 c3 c4 c5 c6 c7 c8 f0 f1 f2 f3 f4 f5 f6 f7 f8 HO HC HR HS hnone
          have z5 := Ext.size hE
          go_upto_region 13 with fail
          have hb : -9223372036854775808 ≤ wrap64 (x + 1) ∧ wrap64 (x + 1) ≤ 9223372036854775807  := by have h := wrapB (x + 1); first | exact h | simpa using h | (unfold wrap64; omega)
          obtain ⟨x6, hx6⟩ : ∃ x6, x6 = min 1000000 (wrap64 (x + 1)) := ⟨_, rfl⟩
          rw [← hx6]
          have hx6b : -9223372036854775808 ≤ x6 ∧ x6 ≤ 9223372036854775807 := by omega
          clear hx6 hb hx
          have PB := Box.new2 (w := w5) (n := w5.heap.size) (x := .int .i64 x6) (y := .int .i64 y) (t := 25) rfl
          have HC6 := Lib.hid (HC5.out.alloc (.cells #[.int .i64 x6, .int .i64 y] 25))
          have HR6 := Lib.hid (HR5.out.alloc (.cells #[.int .i64 x6, .int .i64 y] 25))
          have HS6 := Lib.hid (HS5.out.alloc (.cells #[.int .i64 x6, .int .i64 y] 25))
          have lP : w5.heap.size < (w5.alloc (.cells #[.int .i64 x6, .int .i64 y] 25)).heap.size := by simp
          obtain ⟨PP, hPP⟩ : ∃ PP, PP = w5.heap.size := ⟨_, rfl⟩
          rw [← hPP] at PB lP z5 lC5 lB5
          rw [← hPP]
          generalize w5.alloc (.cells #[.int .i64 x6, .int .i64 y] 25) = w6 at *
          clear hPP HC5 HR5 HS5 hE
          obtain ⟨⟨c0, c1, c2, c3, c4, c5, c6, c7, c8⟩, _⟩ := Box.nine HC6.out
          go_wp2_with fail
          refine (middle_weak _ _ _ _ _).mono ?_
          rintro e w7 ⟨⟨u2, v2, rfl, _, _⟩, hE⟩
          have HC7 := HC6.out.ext hE
          have HR7 := HR6.out.ext hE
          have HS7 := HS6.out.ext hE
          have PB7 := PB.ext hE
          have z7 := Ext.size hE
          clear c0 c1 c2 c3 c4 c5 c6 c7 c8 PB HC6 HR6 HS6 hE
          go_upto_region 14 with fail
          have QB := Box.new2 (w := w7) (n := w7.heap.size) (x := .int .i64 u2) (y := .int .i64 v2) (t := 25) rfl
          have HC8 := Lib.hid (HC7.alloc (.cells #[.int .i64 u2, .int .i64 v2] 25))
          have HR8 := Lib.hid (HR7.alloc (.cells #[.int .i64 u2, .int .i64 v2] 25))
          have HS8 := Lib.hid (HS7.alloc (.cells #[.int .i64 u2, .int .i64 v2] 25))
          have PB8 := Lib.hid (PB7.alloc (.cells #[.int .i64 u2, .int .i64 v2] 25))
          have y7 : w7.heap.size < (w7.alloc (.cells #[.int .i64 u2, .int .i64 v2] 25)).heap.size := by simp
          obtain ⟨QQ, hQQ⟩ : ∃ QQ, QQ = w7.heap.size := ⟨_, rfl⟩
          rw [← hQQ] at QB y7 z7
          rw [← hQQ]
          generalize w7.alloc (.cells #[.int .i64 u2, .int .i64 v2] 25) = w8 at *
          clear hQQ HC7 HR7 HS7 PB7
          have eP0 : ∀ w', Ext w8 w' → w'.cell? ⟨PP, 0, none⟩ = some (.int .i64 x6) := fun w' h => h.cellOf (PB8.out 0 _ rfl).1
          have eP1 : ∀ w', Ext w8 w' → w'.cell? ⟨PP, 1, none⟩ = some (.int .i64 y) := fun w' h => h.cellOf (PB8.out 1 _ rfl).1
          have eQ0 : ∀ w', Ext w8 w' → w'.cell? ⟨QQ, 0, none⟩ = some (.int .i64 u2) := fun w' h => h.cellOf (QB 0 _ rfl).1
          have eQ1 : ∀ w', Ext w8 w' → w'.cell? ⟨QQ, 1, none⟩ = some (.int .i64 v2) := fun w' h => h.cellOf (QB 1 _ rfl).1
          have eK0 : ∀ w', Ext w8 w' → w'.cell? ⟨C, 0, none⟩ = some (.int .i64 l.a) := fun w' h => h.cellOf (HC8.out 0 _ rfl).1
          have eK1 : ∀ w', Ext w8 w' → w'.cell? ⟨C, 1, none⟩ = some (.int .i64 l.b) := fun w' h => h.cellOf (HC8.out 1 _ rfl).1
          have eK2 : ∀ w', Ext w8 w' → w'.cell? ⟨C, 2, none⟩ = some (.int .i64 l.c) := fun w' h => h.cellOf (HC8.out 2 _ rfl).1
          have eK3 : ∀ w', Ext w8 w' → w'.cell? ⟨C, 3, none⟩ = some (.int .i64 l.d) := fun w' h => h.cellOf (HC8.out 3 _ rfl).1
          have FH := Lib.hid floor_halfE
          go_cut [77] from 53 to 90 (fun s wx => (∃ b : Bool, s = .bool b) ∧ Ext w8 wx)
          case first =>
            have hE8 : Ext w8 w8 := Ext.refl w8
            by_cases h1 : x6 = u2
            · have t1 : (x6 == u2) = true := beq_iff_eq.2 h1
              by_cases h2 : y = v2
              · have t2 : (y == v2) = true := beq_iff_eq.2 h2
                clear h1 h2
                refine wp_region_held_drew (S := (fun w' => Ext w8 w')) (by kernel_rfl) (by (try dsimp only); first | go_keep | exact (Ext.refl _).drew | exact Res.new2.drew | exact Res.new4.drew | exact ResB.drew (by assumption) | exact ResC.drew (by assumption) | assumption | exact Ext.drew (by assumption) | exact Res.drew (by assumption)) (fun hHeld => ?_)
                refine Ord.K 0 68 ?_
                refine Ord.K 1 69 ?_
                refine Ord.K 2 70 ?_
                refine Ord.K 3 71 ?_
                (first | (refine Ord.s 4 72 ?_ ?_; rfl; (try simp only [Act.put, Ord.a, Ord.b, Ord.c])) | refine Ord.K 4 72 ?_)
                (first | (refine Ord.s 5 73 ?_ ?_; rfl; (try simp only [Act.put, Ord.a, Ord.b, Ord.c])) | refine Ord.K 5 73 ?_)
                (first | (refine Ord.s 6 74 ?_ ?_; rfl; (try simp only [Act.put, Ord.a, Ord.b, Ord.c])) | refine Ord.K 6 74 ?_)
                (first | (refine Ord.s 7 75 ?_ ?_; rfl; (try simp only [Act.put, Ord.a, Ord.b, Ord.c])) | (refine wpAnyH_ready (rs := [7]) (by kernel_rfl) (by simp) ?_; refine AllReadyH.cons rfl (fun K hK => ?_) AllReadyH.nil; go_simp; (go_at_call 128; refine (middle_weak _ _ _ _ _).mono ?_; rintro e w9 ⟨⟨u3, v3, rfl, _, _⟩, hy⟩); go_wp2_with fail; (refine hK.out _ _ (by first | assumption | exact Ext.trans (by assumption) hy | exact Res.ext (by assumption) hy | exact ResB.ext (by assumption) hy | exact ResC.ext (by assumption) hy | (go_split_ands; (repeat' apply And.intro) <;> exact Ext.cellOf hy (by assumption))) (fun hHeld => ?_)); clear hK K; (try simp only [Act.put, Ord.a, Ord.b, Ord.c])))
                (first | (refine Ord.s 8 76 ?_ ?_; rfl; (try simp only [Act.put, Ord.a, Ord.b, Ord.c])) | refine Ord.K 8 76 ?_)
                refine Ord.K 9 77 ?_
                refine wpAnyH_done (by kernel_rfl) ?_ _
                go_wp2_with fail
                go_meet
                exact ⟨⟨_, rfl⟩, (Ext.refl _).drew⟩
              · have t2 : (y == v2) = false := beq_eq_false_iff_ne.2 h2
                clear h1 h2
                refine wp_region_held_drew (S := (fun w' => Ext w8 w')) (by kernel_rfl) (by (try dsimp only); exact (Ext.refl _).drew) (fun hHeld => ?_)
                refine Ord.K 0 68 ?_; refine Ord.K 1 69 ?_; refine Ord.K 2 70 ?_; refine Ord.K 3 71 ?_; refine Ord.K 4 72 ?_; refine Ord.K 5 73 ?_; refine Ord.K 6 74 ?_
                refine wpAnyH_ready (rs := [7]) (by kernel_rfl) (by simp) ?_
                refine AllReadyH.cons rfl (fun K hK => ?_) AllReadyH.nil
                go_simp
                go_at_call 128
                refine (middle_weak _ _ _ _ _).mono ?_
                rintro e w9 ⟨⟨u3, v3, rfl, _, _⟩, hy⟩
                go_wp2_with fail
                have hW : Ext w8 w9 := (Ext.refl w8).drew.trans hy
                refine hK.out _ _ hW (fun hHeld => ?_)
                clear hK K hy
                (try simp only [Act.put, Ord.a, Ord.b, Ord.c])
                by_cases h3 : x6 = u3
                · have t3 : (x6 == u3) = true := beq_iff_eq.2 h3
                  clear h3
                  by_cases h4 : y = v3
                  · have t4 : (y == v3) = true := beq_iff_eq.2 h4
                    clear h4
                    refine Ord.K 8 76 ?_; refine Ord.K 9 77 ?_
                    refine wpAnyH_done (by kernel_rfl) ?_ _
                    go_wp2_with fail
                    go_meet
                    exact ⟨⟨_, rfl⟩, hW⟩
                  · have t4 : (y == v3) = false := beq_eq_false_iff_ne.2 h4
                    clear h4
                    refine Ord.K 8 76 ?_; refine Ord.K 9 77 ?_
                    refine wpAnyH_done (by kernel_rfl) ?_ _
                    go_wp2_with fail
                    go_meet
                    exact ⟨⟨_, rfl⟩, hW⟩
                · have t3 : (x6 == u3) = false := beq_eq_false_iff_ne.2 h3
                  clear h3
                  refine Ord.K 8 76 ?_; refine Ord.K 9 77 ?_
                  refine wpAnyH_done (by kernel_rfl) ?_ _
                  go_wp2_with fail
                  go_meet
                  exact ⟨⟨_, rfl⟩, hW⟩
            · have t1 : (x6 == u2) = false := beq_eq_false_iff_ne.2 h1
              clear h1
              refine wp_region_held_drew (S := (fun w' => Ext w8 w')) (by kernel_rfl) (by (try dsimp only); exact (Ext.refl _).drew) (fun hHeld => ?_)
              refine Ord.K 0 68 ?_; refine Ord.K 1 69 ?_; refine Ord.K 2 70 ?_; refine Ord.K 3 71 ?_; refine Ord.K 4 72 ?_; refine Ord.K 5 73 ?_; refine Ord.K 6 74 ?_
              refine wpAnyH_ready (rs := [7]) (by kernel_rfl) (by simp) ?_
              refine AllReadyH.cons rfl (fun K hK => ?_) AllReadyH.nil
              go_simp
              go_at_call 128
              refine (middle_weak _ _ _ _ _).mono ?_
              rintro e w9 ⟨⟨u3, v3, rfl, _, _⟩, hy⟩
              go_wp2_with fail
              have hW : Ext w8 w9 := (Ext.refl w8).drew.trans hy
              refine hK.out _ _ hW (fun hHeld => ?_)
              clear hK K hy
              (try simp only [Act.put, Ord.a, Ord.b, Ord.c])
              by_cases h3 : x6 = u3
              · have t3 : (x6 == u3) = true := beq_iff_eq.2 h3
                clear h3
                by_cases h4 : y = v3
                · have t4 : (y == v3) = true := beq_iff_eq.2 h4
                  clear h4
                  refine Ord.K 8 76 ?_; refine Ord.K 9 77 ?_
                  refine wpAnyH_done (by kernel_rfl) ?_ _
                  go_wp2_with fail
                  go_meet
                  exact ⟨⟨_, rfl⟩, hW⟩
                · have t4 : (y == v3) = false := beq_eq_false_iff_ne.2 h4
                  clear h4
                  refine Ord.K 8 76 ?_; refine Ord.K 9 77 ?_
                  refine wpAnyH_done (by kernel_rfl) ?_ _
                  go_wp2_with fail
                  go_meet
                  exact ⟨⟨_, rfl⟩, hW⟩
              · have t3 : (x6 == u3) = false := beq_eq_false_iff_ne.2 h3
                clear h3
                refine Ord.K 8 76 ?_; refine Ord.K 9 77 ?_
                refine wpAnyH_done (by kernel_rfl) ?_ _
                go_wp2_with fail
                go_meet
                exact ⟨⟨_, rfl⟩, hW⟩
          case rest =>
            obtain ⟨⟨bb, rfl⟩, hW⟩ := hcut
            obtain ⟨w9, rfl⟩ : ∃ w9 : World, w9 = wc := ⟨_, rfl⟩
            have nPC : C ≠ PP := by omega
            have nPR : w.heap.size ≠ PP := by omega
            have zW9 := Ext.size hW
            have HC9 := Lib.hid (HC8.out.ext hW)
            have HR9 := Lib.hid (HR8.out.ext hW)
            have HS9 := Lib.hid (HS8.out.ext hW)
            have PB9 := PB8.out.ext hW
            clear eP0 eP1 eQ0 eQ1 eK0 eK1 eK2 eK3 hW QB HC8 HR8 HS8 PB8
            cases bb
            · have hR := only_rel (B := B) (N := N) (l := l) (k := k) x6 y HC9.out HR9.out HS9.out hwC hCN (by omega) hB
              have HRel := Lib.hid hR
              obtain ⟨⟨p0, p1⟩, _⟩ := PB9.two
              obtain ⟨⟨c0, c1, c2, c3, c4, c5, c6, c7, c8⟩, f0, f1, f2, f3, f4, f5, f6, f7, f8⟩ := Box.nine HC9.out
              have lC9 := HC9.out.lt
              clear hR
              go_wp2
              go_roundw
              case rel => first | exact HRel.out.1 | ((repeat apply Exists.intro); exact ⟨HRel.out.1, rfl⟩)
              case measure => rw [HRel.out.2, hlen.out]; omega
            · clear FH
              have FH := Lib.hid floor_halfE
              go_upto_region 15 with fail
              refine wp_region_held_drew (S := fun _ => True) (by kernel_rfl) (by trivial) (fun hHeld => ?_)
              have PBV := PB9.drew
              have HC9 := Lib.hid HC9.out.drew
              have HR9 := Lib.hid HR9.out.drew
              have HS9 := Lib.hid HS9.out.drew
              have zV0 : w9.drew.heap.size = w9.heap.size := rfl
              generalize w9.drew = V0 at *
              obtain ⟨⟨b0, b1⟩, g0, g1⟩ := PBV.two
              refine Ord.K 0 78 ?_; refine Ord.K 4 82 ?_
              refine wpAnyH_ready (rs := [1, 5]) (by kernel_rfl) (by simp) ?_
              refine (AllReadyH.cons rfl (fun K hK => ?_) (AllReadyH.cons rfl (fun K hK => ?_) AllReadyH.nil))
              · go_simp
                refine hK.out _ _ trivial (fun hHeld => ?_)
                clear hK K
                (try simp only [Act.put, Ord.a, Ord.b, Ord.c])
                refine wpAnyH_ready (rs := [2, 5]) (by kernel_rfl) (by simp) ?_
                refine (AllReadyH.cons rfl (fun K hK => ?_) (AllReadyH.cons rfl (fun K hK => ?_) AllReadyH.nil))
                · go_simp
                  go_at_call 129
                  refine (FH.out _ _ (by omega) (by omega)).mono ?_
                  rintro e _ ⟨⟨a2, rfl⟩, rfl⟩
                  go_wp2_with fail
                  refine hK.out _ _ trivial (fun hHeld => ?_)
                  clear hK K
                  (try simp only [Act.put, Ord.a, Ord.b, Ord.c])
                  refine Ord.K 3 81 ?_
                  refine wpAnyH_ready (rs := [5]) (by kernel_rfl) (by simp) ?_
                  refine (AllReadyH.cons rfl (fun K hK => ?_) AllReadyH.nil)
                  · go_simp
                    refine hK.out _ _ trivial (fun hHeld => ?_)
                    clear hK K
                    (try simp only [Act.put, Ord.a, Ord.b, Ord.c])
                    refine wpAnyH_ready (rs := [6]) (by kernel_rfl) (by simp) ?_
                    refine (AllReadyH.cons rfl (fun K hK => ?_) AllReadyH.nil)
                    · go_simp
                      go_at_call 129
                      refine (FH.out _ _ (by omega) (by omega)).mono ?_
                      rintro e _ ⟨⟨b2, rfl⟩, rfl⟩
                      go_wp2_with fail
                      refine hK.out _ _ trivial (fun hHeld => ?_)
                      clear hK K
                      (try simp only [Act.put, Ord.a, Ord.b, Ord.c])
                      refine Ord.K 7 85 ?_
                      refine Ord.K 8 86 ?_
                      refine wpAnyH_ready (rs := [9]) (by kernel_rfl) (by simp) ?_
                      refine (AllReadyH.cons rfl (fun K hK => ?_) AllReadyH.nil)
                      go_simp
                      refine hK.out _ _ trivial (fun hHeld => ?_)
                      clear hK K
                      (try simp only [Act.put, Ord.a, Ord.b, Ord.c])
                      refine wpAnyH_done (by kernel_rfl) ?_ _
                      have PBX := Box.set2 PBV (u := .int .i64 (IntKind.i64.wrap (a2 - 3))) (v := .int .i64 (IntKind.i64.wrap (b2 + 3)))
                      have HC := Lib.hid (Box.away2 HC9.out (m := PP) (i := 0) (j := 1) (u := .int .i64 (IntKind.i64.wrap (a2 - 3))) (v := .int .i64 (IntKind.i64.wrap (b2 + 3))) (by omega))
                      have HR := Lib.hid (Box.away2 HR9.out (m := PP) (i := 0) (j := 1) (u := .int .i64 (IntKind.i64.wrap (a2 - 3))) (v := .int .i64 (IntKind.i64.wrap (b2 + 3))) (by omega))
                      have HS := Lib.hid ((HS9.out.set (p := ⟨PP, 0, none⟩) (by simp; omega) (by simp; omega) (.int .i64 (IntKind.i64.wrap (a2 - 3)))).set (p := ⟨PP, 1, none⟩) (by simp; omega) (by simp; omega) (.int .i64 (IntKind.i64.wrap (b2 + 3))))
                      have zX : ((V0.setCell ⟨PP, 0, none⟩ (.int .i64 (IntKind.i64.wrap (a2 - 3)))).setCell ⟨PP, 1, none⟩ (.int .i64 (IntKind.i64.wrap (b2 + 3)))).heap.size = V0.heap.size := by simp
                      generalize ((V0.setCell ⟨PP, 0, none⟩ (.int .i64 (IntKind.i64.wrap (a2 - 3)))).setCell ⟨PP, 1, none⟩ (.int .i64 (IntKind.i64.wrap (b2 + 3)))) = X at *
                      clear HC9 HR9 HS9 PBV b0 b1 g0 g1 hHeld FH
                      have hR := only_rel (B := B) (N := N) (l := l) (k := k) (IntKind.i64.wrap (a2 - 3)) (IntKind.i64.wrap (b2 + 3)) HC.out HR.out HS.out hwC hCN (by omega) hB
                      have HRel := Lib.hid hR
                      obtain ⟨⟨p0, p1⟩, _⟩ := PBX.two
                      obtain ⟨⟨c0, c1, c2, c3, c4, c5, c6, c7, c8⟩, f0, f1, f2, f3, f4, f5, f6, f7, f8⟩ := Box.nine HC.out
                      have lCX := HC.out.lt
                      clear hR zX
                      generalize IntKind.i64.wrap (a2 - 3) = xa at *
                      generalize IntKind.i64.wrap (b2 + 3) = ya at *
                      go_wp2
                      go_roundw
                      case rel => first | exact HRel.out.1 | ((repeat apply Exists.intro); exact ⟨HRel.out.1, rfl⟩)
                      case measure => rw [HRel.out.2, hlen.out]; omega
                · go_simp
                  refine hK.out _ _ trivial (fun hHeld => ?_)
                  clear hK K
                  (try simp only [Act.put, Ord.a, Ord.b, Ord.c])
                  refine wpAnyH_ready (rs := [2]) (by kernel_rfl) (by simp) ?_
                  refine (AllReadyH.cons rfl (fun K hK => ?_) AllReadyH.nil)
                  · go_simp
                    go_at_call 129
                    refine (FH.out _ _ (by omega) (by omega)).mono ?_
                    rintro e _ ⟨⟨a2, rfl⟩, rfl⟩
                    go_wp2_with fail
                    refine hK.out _ _ trivial (fun hHeld => ?_)
                    clear hK K
                    (try simp only [Act.put, Ord.a, Ord.b, Ord.c])
                    refine Ord.K 3 81 ?_
                    refine wpAnyH_ready (rs := [6]) (by kernel_rfl) (by simp) ?_
                    refine (AllReadyH.cons rfl (fun K hK => ?_) AllReadyH.nil)
                    · go_simp
                      go_at_call 129
                      refine (FH.out _ _ (by omega) (by omega)).mono ?_
                      rintro e _ ⟨⟨b2, rfl⟩, rfl⟩
                      go_wp2_with fail
                      refine hK.out _ _ trivial (fun hHeld => ?_)
                      clear hK K
                      (try simp only [Act.put, Ord.a, Ord.b, Ord.c])
                      refine Ord.K 7 85 ?_
                      refine Ord.K 8 86 ?_
                      refine wpAnyH_ready (rs := [9]) (by kernel_rfl) (by simp) ?_
                      refine (AllReadyH.cons rfl (fun K hK => ?_) AllReadyH.nil)
                      go_simp
                      refine hK.out _ _ trivial (fun hHeld => ?_)
                      clear hK K
                      (try simp only [Act.put, Ord.a, Ord.b, Ord.c])
                      refine wpAnyH_done (by kernel_rfl) ?_ _
                      have PBX := Box.set2 PBV (u := .int .i64 (IntKind.i64.wrap (a2 - 3))) (v := .int .i64 (IntKind.i64.wrap (b2 + 3)))
                      have HC := Lib.hid (Box.away2 HC9.out (m := PP) (i := 0) (j := 1) (u := .int .i64 (IntKind.i64.wrap (a2 - 3))) (v := .int .i64 (IntKind.i64.wrap (b2 + 3))) (by omega))
                      have HR := Lib.hid (Box.away2 HR9.out (m := PP) (i := 0) (j := 1) (u := .int .i64 (IntKind.i64.wrap (a2 - 3))) (v := .int .i64 (IntKind.i64.wrap (b2 + 3))) (by omega))
                      have HS := Lib.hid ((HS9.out.set (p := ⟨PP, 0, none⟩) (by simp; omega) (by simp; omega) (.int .i64 (IntKind.i64.wrap (a2 - 3)))).set (p := ⟨PP, 1, none⟩) (by simp; omega) (by simp; omega) (.int .i64 (IntKind.i64.wrap (b2 + 3))))
                      have zX : ((V0.setCell ⟨PP, 0, none⟩ (.int .i64 (IntKind.i64.wrap (a2 - 3)))).setCell ⟨PP, 1, none⟩ (.int .i64 (IntKind.i64.wrap (b2 + 3)))).heap.size = V0.heap.size := by simp
                      generalize ((V0.setCell ⟨PP, 0, none⟩ (.int .i64 (IntKind.i64.wrap (a2 - 3)))).setCell ⟨PP, 1, none⟩ (.int .i64 (IntKind.i64.wrap (b2 + 3)))) = X at *
                      clear HC9 HR9 HS9 PBV b0 b1 g0 g1 hHeld FH
                      have hR := only_rel (B := B) (N := N) (l := l) (k := k) (IntKind.i64.wrap (a2 - 3)) (IntKind.i64.wrap (b2 + 3)) HC.out HR.out HS.out hwC hCN (by omega) hB
                      have HRel := Lib.hid hR
                      obtain ⟨⟨p0, p1⟩, _⟩ := PBX.two
                      obtain ⟨⟨c0, c1, c2, c3, c4, c5, c6, c7, c8⟩, f0, f1, f2, f3, f4, f5, f6, f7, f8⟩ := Box.nine HC.out
                      have lCX := HC.out.lt
                      clear hR zX
                      generalize IntKind.i64.wrap (a2 - 3) = xa at *
                      generalize IntKind.i64.wrap (b2 + 3) = ya at *
                      go_wp2
                      go_roundw
                      case rel => first | exact HRel.out.1 | ((repeat apply Exists.intro); exact ⟨HRel.out.1, rfl⟩)
                      case measure => rw [HRel.out.2, hlen.out]; omega
              · go_simp
                refine hK.out _ _ trivial (fun hHeld => ?_)
                clear hK K
                (try simp only [Act.put, Ord.a, Ord.b, Ord.c])
                refine wpAnyH_ready (rs := [1]) (by kernel_rfl) (by simp) ?_
                refine (AllReadyH.cons rfl (fun K hK => ?_) AllReadyH.nil)
                · go_simp
                  refine hK.out _ _ trivial (fun hHeld => ?_)
                  clear hK K
                  (try simp only [Act.put, Ord.a, Ord.b, Ord.c])
                  refine wpAnyH_ready (rs := [2]) (by kernel_rfl) (by simp) ?_
                  refine (AllReadyH.cons rfl (fun K hK => ?_) AllReadyH.nil)
                  · go_simp
                    go_at_call 129
                    refine (FH.out _ _ (by omega) (by omega)).mono ?_
                    rintro e _ ⟨⟨a2, rfl⟩, rfl⟩
                    go_wp2_with fail
                    refine hK.out _ _ trivial (fun hHeld => ?_)
                    clear hK K
                    (try simp only [Act.put, Ord.a, Ord.b, Ord.c])
                    refine Ord.K 3 81 ?_
                    refine wpAnyH_ready (rs := [6]) (by kernel_rfl) (by simp) ?_
                    refine (AllReadyH.cons rfl (fun K hK => ?_) AllReadyH.nil)
                    · go_simp
                      go_at_call 129
                      refine (FH.out _ _ (by omega) (by omega)).mono ?_
                      rintro e _ ⟨⟨b2, rfl⟩, rfl⟩
                      go_wp2_with fail
                      refine hK.out _ _ trivial (fun hHeld => ?_)
                      clear hK K
                      (try simp only [Act.put, Ord.a, Ord.b, Ord.c])
                      refine Ord.K 7 85 ?_
                      refine Ord.K 8 86 ?_
                      refine wpAnyH_ready (rs := [9]) (by kernel_rfl) (by simp) ?_
                      refine (AllReadyH.cons rfl (fun K hK => ?_) AllReadyH.nil)
                      go_simp
                      refine hK.out _ _ trivial (fun hHeld => ?_)
                      clear hK K
                      (try simp only [Act.put, Ord.a, Ord.b, Ord.c])
                      refine wpAnyH_done (by kernel_rfl) ?_ _
                      have PBX := Box.set2 PBV (u := .int .i64 (IntKind.i64.wrap (a2 - 3))) (v := .int .i64 (IntKind.i64.wrap (b2 + 3)))
                      have HC := Lib.hid (Box.away2 HC9.out (m := PP) (i := 0) (j := 1) (u := .int .i64 (IntKind.i64.wrap (a2 - 3))) (v := .int .i64 (IntKind.i64.wrap (b2 + 3))) (by omega))
                      have HR := Lib.hid (Box.away2 HR9.out (m := PP) (i := 0) (j := 1) (u := .int .i64 (IntKind.i64.wrap (a2 - 3))) (v := .int .i64 (IntKind.i64.wrap (b2 + 3))) (by omega))
                      have HS := Lib.hid ((HS9.out.set (p := ⟨PP, 0, none⟩) (by simp; omega) (by simp; omega) (.int .i64 (IntKind.i64.wrap (a2 - 3)))).set (p := ⟨PP, 1, none⟩) (by simp; omega) (by simp; omega) (.int .i64 (IntKind.i64.wrap (b2 + 3))))
                      have zX : ((V0.setCell ⟨PP, 0, none⟩ (.int .i64 (IntKind.i64.wrap (a2 - 3)))).setCell ⟨PP, 1, none⟩ (.int .i64 (IntKind.i64.wrap (b2 + 3)))).heap.size = V0.heap.size := by simp
                      generalize ((V0.setCell ⟨PP, 0, none⟩ (.int .i64 (IntKind.i64.wrap (a2 - 3)))).setCell ⟨PP, 1, none⟩ (.int .i64 (IntKind.i64.wrap (b2 + 3)))) = X at *
                      clear HC9 HR9 HS9 PBV b0 b1 g0 g1 hHeld FH
                      have hR := only_rel (B := B) (N := N) (l := l) (k := k) (IntKind.i64.wrap (a2 - 3)) (IntKind.i64.wrap (b2 + 3)) HC.out HR.out HS.out hwC hCN (by omega) hB
                      have HRel := Lib.hid hR
                      obtain ⟨⟨p0, p1⟩, _⟩ := PBX.two
                      obtain ⟨⟨c0, c1, c2, c3, c4, c5, c6, c7, c8⟩, f0, f1, f2, f3, f4, f5, f6, f7, f8⟩ := Box.nine HC.out
                      have lCX := HC.out.lt
                      clear hR zX
                      generalize IntKind.i64.wrap (a2 - 3) = xa at *
                      generalize IntKind.i64.wrap (b2 + 3) = ya at *
                      go_wp2
                      go_roundw
                      case rel => first | exact HRel.out.1 | ((repeat apply Exists.intro); exact ⟨HRel.out.1, rfl⟩)
                      case measure => rw [HRel.out.2, hlen.out]; omega
        · have t0 : ((n : Int) == 0) = false := beq_eq_false_iff_ne.2 (by omega)
          obtain ⟨⟨r0, r1, r2, r3, r4, r5, r6, r7, r8⟩, q0, q1, q2, q3, q4, q5, q6, q7, q8⟩ := Box.nine HR.out
          have RB := Lib.hid (Box.put9 HR.out (.int .i64 l.a) (.int .i64 l.b) (.int .i64 l.c) (.int .i64 l.d) (.int .i64 k.a) (.int .i64 k.b) (.int .i64 k.c) (.int .i64 k.d) (.slice ao ms.length cap))
          have SB := Lib.hid (SC.put9 HS.out (n := w.heap.size) hB (by omega) (.int .i64 l.a) (.int .i64 l.b) (.int .i64 l.c) (.int .i64 l.d) (.int .i64 k.a) (.int .i64 k.b) (.int .i64 k.c) (.int .i64 k.d) (.slice ao ms.length cap))
          have OB := Lib.hid (row_mono (b2 := w.heap.size) (HO.out.chg (Chg.put9 (n := w.heap.size) (.int .i64 l.a) (.int .i64 l.b) (.int .i64 l.c) (.int .i64 l.d) (.int .i64 k.a) (.int .i64 k.b) (.int .i64 k.c) (.int .i64 k.d) (.slice ao ms.length cap)) (HO.out.block (by omega))) (by omega))
          rw [← Hn.out] at RB SB OB
          clear HO HC HR HS lC lB
          go_wp2
          exact co_done RB.out (by have := Hn.out; omega) (by have := Hn.out; omega) HFit.out (by rw [Hn.out]; rw [Hn.out] at OB; exact OB.out) SB.out rfl
end Go.Proofs.YtmlojndkpnhalaaGreat.Crs
