/- The statements' call played: any script leaves a row and the document's one alike, or is not tried. -/
import Derived.Test.YtjmgdhnjldimgaaAw
import Derived.Test.YtjmgdhnjldimgaaOp
namespace Go.Proofs.Ytjmgdhnjldimgaa
open Go.RowKit
set_option linter.unusedVariables false
set_option linter.unusedSimpArgs false
set_option maxRecDepth 100000
theorem load28c {w : World} {b : Nat} {c : Array Value} (hs : c.size = 4) (h : Box 28 w b c) : (loadVar 28 ⟨b, 0, none⟩).run Try.prog w = .ok (.agg c) w := run_loadVar_row w b 28 28 _ (0, 0) _ h Try.underlying28 rfl (by rw [hs]; kernel_rfl)
theorem yield28c {w : World} {o : Oper} {a : Act} {b : Nat} {c : Array Value} (hs : c.size = 4) (hw : Box 28 w b c) (x : Operand) (hop : o.op = Op.load 28 x) (hx : a.eval x = .pointer (some ⟨b, 0, none⟩)) : (execOp a.eval o).run Try.prog w = .ok (.value (.agg c)) w := by
  simp only [execOp, hop, hx, Instr.loadAt, Instr.sureAddr, Sem.run_bind, Sem.run_pure, Result.andThen_ok, load28c hs hw]
theorem results3c {fn : Func} {p t u : Tmp} (h : fn.results = #[.tmp t, .cell p 28, .tmp u]) (tmps : Array Value) (w : World) (b : Nat) (c : Array Value) (hs : c.size = 4) (hp : tmps.getD p undef = .pointer (some ⟨b, 0, none⟩)) (h1 : Box 28 w b c) : (results fn tmps).run Try.prog w = .ok (.tuple #[tmps.getD t undef, .agg c, tmps.getD u undef]) w := by
  have hp' : tmps[p]?.getD undef = .pointer (some ⟨b, 0, none⟩) := by simpa using hp
  simp [results, h, hp', asAddr, load28c hs h1]
theorem wp_store28c {w : World} {o : Oper} {a : Act} {KK : Act → World → Prop} {Q : Exit → Act → World → Prop} (x y : Operand) (ho : o.op = .store 28 x y) (b : Nat) (c old : Array Value) (hc : c.size = 4) (h1 : c.all (·.oneCell') = true) (hx : a.eval x = .pointer (some ⟨b, 0, none⟩)) (hy : a.eval y = .agg c) (hb : Box 28 w b old) (hs : old.size = 4)
    (h : ∀ W, Box 28 W b c → Upon b w W → KK (a.put o.dst undef) W) : o.wp Try.prog a w KK Q :=
  wp_store_row 28 x y ho b c hx hy 28 old hb (by rw [hc]; kernel_rfl) (by rw [hc]; exact hs) h1 (h _ (setRow_heap w b old _ 28 (0, 0) hb) (upon_row (Upon.refl _ _) _))
theorem wpList_store28c {w : World} {ops : Array Oper} {rest : List Oper} {o : Oper} {a : Act} {Q : Exit → Act → World → Prop} (hg : o.guard = none) (x y : Operand) (ho : o.op = .store 28 x y) (b : Nat) (c old : Array Value) (hc : c.size = 4) (h1 : c.all (·.oneCell') = true) (hx : a.eval x = .pointer (some ⟨b, 0, none⟩)) (hy : a.eval y = .agg c) (hb : Box 28 w b old) (hs : old.size = 4)
    (h : ∀ W, Box 28 W b c → Upon b w W → wpList Try.prog ops Q rest (a.put o.dst undef) W) : wpList Try.prog ops Q (o :: rest) a w :=
  wpList_plain hg fun _ hKK => wp_store28c x y ho b c old hc h1 hx hy hb hs fun W hB hU => hKK _ _ (h W hB hU)
def zC (z : Int) : Array Value := #[.slice none 0 0, .int .i64 z, .int .u64 0, .int .u64 0]
theorem zC_one (z : Int) : (zC z).all (·.oneCell') = true := by simp [zC, Value.oneCell']
/-- the state of 'played': the row, the document's bytes, the box of the document's row, the result's box -/
def Py (W V : World) (fb g b9 d : Nat) (K : Fi) (v : Value) (B R : Array Value) : Prop := FifoAt V fb g K ∧ RL V v d K.l ∧ Box 28 V b9 B ∧ Box 28 V W.heap.size R ∧ Below W.heap.size W V ∧ (W.heap.size < fb ∧ W.heap.size < g ∧ W.heap.size < b9 ∧ b9 ≠ fb ∧ b9 ≠ g ∧ d ≠ b9 ∧ d ≠ W.heap.size) ∧ Off d fb g K.l ∧ d < V.heap.size
section
variable {W V V' : World} {fb g b9 d g2 d2 q : Nat} {K K2 : Fi} {v v2 : Value} {B R c : Array Value}
theorem Py.step (h : Py W V fb g b9 d K v B R) (hb : Below V.heap.size V V') : Py W V' fb g b9 d K v B R := by
  obtain ⟨h1, h2, h3, h4, h5, h6, h7, h8⟩ := h
  exact ⟨h1.step hb, h2.step hb, h3.step hb, h4.step hb, h5.trans (hb.mono h5.size), h6, h7, Nat.lt_of_lt_of_le h8 hb.size⟩
theorem Py.do (h : Py W V fb g b9 d K v B R) (hf : FifoAt V' fb g2 K2) (hr : RL V' v2 d2 K2.l) (ht : Two fb g V V') (hg : g2 = g ∨ V.heap.size ≤ g2) (hd : d2 = d ∨ V.heap.size ≤ d2) (ho : Off d2 fb g2 K2.l) (hl : d2 < V'.heap.size) : Py W V' fb g2 b9 d2 K2 v2 B R := by
  obtain ⟨h1, h2, h3, h4, h5, ⟨n1, n2, n3, n4, n5, n6, n7⟩, h7, h8⟩ := h
  have s1 := h3.lt
  have s2 := h4.lt
  exact ⟨hf, hr, ht.box h3 n4 n5, ht.box h4 (by omega) (by omega), h5.trans (ht.below (by omega) (by omega) h5.size), ⟨n1, by omega, n3, n4, by omega, by omega, by omega⟩, ho, hl⟩
/-- a box that is none of these is written -/
theorem Py.other (h : Py W V fb g b9 d K v B R) (hu : Upon q V V') (h1 : q ≠ b9) (h2 : W.heap.size < q) (h3 : fb ≠ q) (h4 : g ≠ q) (h5 : K.l = [] ∨ d ≠ q) : Py W V' fb g b9 d K v B R := by
  obtain ⟨g1, g2, g3, g4, g5, g6, g7, g8⟩ := h
  exact ⟨g1.upon hu h3 h4, g2.off hu h5, hu.box g3 (Ne.symm h1), hu.box g4 (by omega), g5.trans (hu.below (by omega) g5.size), g6, g7, Nat.lt_of_lt_of_le g8 hu.size⟩
theorem Py.box (h : Py W V fb g b9 d K v B R) (hx : Box 28 V' b9 c) (hu : Upon b9 V V') : Py W V' fb g b9 d K v c R := by
  obtain ⟨g1, g2, g3, g4, g5, ⟨n1, n2, n3, n4, n5, n6, n7⟩, g7, g8⟩ := h
  exact ⟨g1.upon hu (Ne.symm n4) (Ne.symm n5), g2.off hu (.inr n6), hx, hu.box g4 (by omega), g5.trans (hu.below (by omega) g5.size), ⟨n1, n2, n3, n4, n5, n6, n7⟩, g7, Nat.lt_of_lt_of_le g8 hu.size⟩
theorem Py.res (h : Py W V fb g b9 d K v B R) (hx : Box 28 V' W.heap.size c) (hu : Upon W.heap.size V V') : Py W V' fb g b9 d K v B c := by
  obtain ⟨g1, g2, g3, g4, g5, ⟨n1, n2, n3, n4, n5, n6, n7⟩, g7, g8⟩ := h
  exact ⟨g1.upon hu (by omega) (by omega), g2.off hu (.inr n7), hu.box g3 (by omega), hx, g5.trans (hu.below (Nat.le_refl _) g5.size), ⟨n1, n2, n3, n4, n5, n6, n7⟩, g7, Nat.lt_of_lt_of_le g8 hu.size⟩
end
theorem three_later {W w : World} {b o : Nat} {x0 x1 x2 : Value} (h : W.cell? ⟨b, o, none⟩ = some x0 ∧ W.cell? ⟨b, o + 1, none⟩ = some x1 ∧ W.cell? ⟨b, o + 2, none⟩ = some x2) (hb : Below W.heap.size W w) :
    w.cell? ⟨b, o, none⟩ = some x0 ∧ w.cell? ⟨b, o + 1, none⟩ = some x1 ∧ w.cell? ⟨b, o + 2, none⟩ = some x2 := by
  have hlt : b < W.heap.size := block_lt_of_cell h.1
  have cc : ∀ q, w.cell? ⟨b, q, none⟩ = W.cell? ⟨b, q, none⟩ := fun q => World.cell?_of_block (a := ⟨b, q, none⟩) (hb.block b hlt)
  rw [cc, cc, cc]
  exact h
/-- what 'played' leaves -/
def Left (W w' : World) (pv : Value) (cs : Array Value) : Prop :=
  cs.size = 4 ∧ cs.all (·.oneCell') = true ∧ Below W.heap.size W w' ∧ (pv = .pointer none ∨ ∃ fb g d K va vc, pv = .pointer (some ⟨fb, 0, none⟩) ∧ cs = fifoC K (.slice va K.l.length vc) ∧ FifoAt w' fb g K ∧ RL w' (.slice va K.l.length vc) d K.l ∧ Off d fb g K.l ∧ W.heap.size ≤ fb ∧ W.heap.size ≤ g)
set_option maxHeartbeats 4000000 in
theorem played_low (z : Int) (sv : Value) (w : World) (hz : z < 1) : Calls Try.prog 8 #[.int .i64 z, sv] w fun e w' => ∃ pv cs, e = .returned (.tuple #[pv, .agg cs, .bool true]) ∧ Left w w' pv cs := by
  have n1 : decide (z < 1) = true := by simp; omega
  clear hz
  go_enter Try.func8, Try.ntmps8
  go_upto_region 0 with fail
  refine wp_region_list ?_
  (refine wpList_step (fun KK hKK => ?_); go_simp; refine hKK _ _ ?_; clear hKK KK)
  refine wpList_alloc_zero 28 zeroC 4 zinfo28 rfl rfl ?_
  have X0 : Hid (Box 28 (w.alloc (.cells zeroC 28)) w.heap.size zeroC ∧ Below w.heap.size w (w.alloc (.cells zeroC 28))) := ⟨Box.new 28 w _, (Below.refl _ _).alloc (Nat.le_refl _) _⟩
  generalize w.alloc (.cells zeroC 28) = W0 at *
  go_upto_region 1 with fail
  refine wp_region_list ?_
  (refine wpList_step (fun KK hKK => ?_); go_simp; refine hKK _ _ ?_; clear hKK KK)
  (refine wpList_step (fun KK hKK => ?_); go_simp; refine hKK _ _ ?_; clear hKK KK)
  refine wpList_alloc_zero 28 zeroC 4 zinfo28 rfl rfl ?_
  refine wpList_store28c rfl _ _ rfl W0.heap.size (zC z) zeroC rfl (zC_one z) rfl rfl (Box.new 28 W0 _) rfl ?_
  intro W1 B1 U1
  have X1 : Hid (Box 28 W1 w.heap.size zeroC ∧ Box 28 W1 W0.heap.size (zC z) ∧ Below w.heap.size w W1 ∧ w.heap.size < W0.heap.size) := by
    have b1 : Below W0.heap.size W0 (W0.alloc (.cells zeroC 28)) := (Below.refl _ _).alloc (Nat.le_refl _) _
    have b2 := b1.trans (U1.below (Nat.le_refl _) b1.size)
    exact ⟨X0.out.1.step b2, B1, X0.out.2.trans (b2.mono X0.out.2.size), X0.out.1.lt⟩
  clear B1 U1 X0
  generalize W0.heap.size = b9 at *
  go_upto_region 3 with fail
  have Xd : Hid (Box 28 W1.drew w.heap.size zeroC ∧ Box 28 W1.drew b9 (zC z) ∧ Below w.heap.size w W1.drew ∧ w.heap.size < b9) := ⟨X1.out.1.drew, X1.out.2.1.drew, Below.drew X1.out.2.2.1, X1.out.2.2.2⟩
  refine wp_region_held_drew (S := fun V => Box 28 V b9 (zC z)) (by kernel_rfl) Xd.out.2.1 ?_
  intro hS
  clear X1
  generalize W1.drew = Vd at *
  refine wpAnyH_take (i := 0) (v := .agg (zC z)) rfl (by kernel_rfl) (by kernel_rfl) (by kernel_rfl) (fun _ _ _ h => h) (Or.inl ⟨by kernel_rfl, fun V hV => yield28c rfl hV _ rfl rfl⟩) hS ?_
  (try simp only [Act.put, List.getElem_toArray, List.getElem_cons_succ, List.getElem_cons_zero, List.setIfInBounds_toArray, List.set_cons_zero, List.set_cons_succ])
  refine wpAnyH_take (i := 1) (v := ?_) rfl (by kernel_rfl) (by kernel_rfl) (by kernel_rfl) (fun _ _ _ h => h) (Or.inl ⟨by kernel_rfl, ?_⟩) hS ?_
  rotate_left
  · intro w hSw; (try dsimp only at hSw); go_simp; try (with_reducible rfl)
  (try simp only [Act.put, List.getElem_toArray, List.getElem_cons_succ, List.getElem_cons_zero, List.setIfInBounds_toArray, List.set_cons_zero, List.set_cons_succ])
  refine wpAnyH_ready (rs := [2]) (by kernel_rfl) (by simp) ?_
  refine AllReadyH.cons rfl (fun HH0 HH1 => ?_) AllReadyH.nil
  rw [if_pos (by kernel_rfl)]
  refine wp_store28c _ _ rfl w.heap.size (zC z) zeroC rfl (zC_one z) rfl rfl Xd.out.1 rfl ?_
  intro W9 B9 U9
  have X9 : Hid (Box 28 W9 w.heap.size (zC z) ∧ Below w.heap.size w W9 ∧ Box 28 W9 b9 (zC z)) := ⟨B9, Xd.out.2.2.1.trans (U9.below (Nat.le_refl _) Xd.out.2.2.1.size), U9.box Xd.out.2.1 (by have := Xd.out.2.2.2; omega)⟩
  clear B9 U9 Xd
  refine HH1.out _ _ X9.out.2.2 (fun hS9 => ?_)
  clear HH1 HH0 hS
  (try simp only [Act.put, List.getElem_toArray, List.getElem_cons_succ, List.getElem_cons_zero, List.setIfInBounds_toArray, List.set_cons_zero, List.set_cons_succ])
  refine wpAnyH_take (i := 3) (v := ?_) rfl (by kernel_rfl) (by kernel_rfl) (by kernel_rfl) (fun _ _ _ h => h) (Or.inl ⟨by kernel_rfl, ?_⟩) hS9 ?_
  rotate_left
  · intro w hSw; (try dsimp only at hSw); go_simp; try (with_reducible rfl)
  (try simp only [Act.put, List.getElem_toArray, List.getElem_cons_succ, List.getElem_cons_zero, List.setIfInBounds_toArray, List.set_cons_zero, List.set_cons_succ])
  refine wpAnyH_done (by kernel_rfl) ?_ _
  clear hS9
  go_wp2_with fail
  exact bodyPost_ret (v := .tuple #[.pointer none, .agg (zC z), .bool true]) (results3c (t := 4) (p := 5) (u := 6) rfl _ _ w.heap.size _ rfl rfl X9.out.1) rfl ⟨_, _, rfl, rfl, zC_one z, X9.out.2.1, .inl rfl⟩
set_option maxHeartbeats 4000000 in
theorem played_high (z : Int) (sv : Value) (w : World) (hz : 100 < z) : Calls Try.prog 8 #[.int .i64 z, sv] w fun e w' => ∃ pv cs, e = .returned (.tuple #[pv, .agg cs, .bool true]) ∧ Left w w' pv cs := by
  have n1 : decide (z < 1) = false := by simp; omega
  have n2 : decide (100 < z) = true := by simp; omega
  clear hz
  go_enter Try.func8, Try.ntmps8
  go_upto_region 0 with fail
  refine wp_region_list ?_
  (refine wpList_step (fun KK hKK => ?_); go_simp; refine hKK _ _ ?_; clear hKK KK)
  refine wpList_alloc_zero 28 zeroC 4 zinfo28 rfl rfl ?_
  have X0 : Hid (Box 28 (w.alloc (.cells zeroC 28)) w.heap.size zeroC ∧ Below w.heap.size w (w.alloc (.cells zeroC 28))) := ⟨Box.new 28 w _, (Below.refl _ _).alloc (Nat.le_refl _) _⟩
  generalize w.alloc (.cells zeroC 28) = W0 at *
  go_upto_region 1 with fail
  refine wp_region_list ?_
  (refine wpList_step (fun KK hKK => ?_); go_simp; refine hKK _ _ ?_; clear hKK KK)
  (refine wpList_step (fun KK hKK => ?_); go_simp; refine hKK _ _ ?_; clear hKK KK)
  refine wpList_alloc_zero 28 zeroC 4 zinfo28 rfl rfl ?_
  refine wpList_store28c rfl _ _ rfl W0.heap.size (zC z) zeroC rfl (zC_one z) rfl rfl (Box.new 28 W0 _) rfl ?_
  intro W1 B1 U1
  have X1 : Hid (Box 28 W1 w.heap.size zeroC ∧ Box 28 W1 W0.heap.size (zC z) ∧ Below w.heap.size w W1 ∧ w.heap.size < W0.heap.size) := by
    have b1 : Below W0.heap.size W0 (W0.alloc (.cells zeroC 28)) := (Below.refl _ _).alloc (Nat.le_refl _) _
    have b2 := b1.trans (U1.below (Nat.le_refl _) b1.size)
    exact ⟨X0.out.1.step b2, B1, X0.out.2.trans (b2.mono X0.out.2.size), X0.out.1.lt⟩
  clear B1 U1 X0
  generalize W0.heap.size = b9 at *
  go_upto_region 3 with fail
  have Xd : Hid (Box 28 W1.drew w.heap.size zeroC ∧ Box 28 W1.drew b9 (zC z) ∧ Below w.heap.size w W1.drew ∧ w.heap.size < b9) := ⟨X1.out.1.drew, X1.out.2.1.drew, Below.drew X1.out.2.2.1, X1.out.2.2.2⟩
  refine wp_region_held_drew (S := fun V => Box 28 V b9 (zC z)) (by kernel_rfl) Xd.out.2.1 ?_
  intro hS
  clear X1
  generalize W1.drew = Vd at *
  refine wpAnyH_take (i := 0) (v := .agg (zC z)) rfl (by kernel_rfl) (by kernel_rfl) (by kernel_rfl) (fun _ _ _ h => h) (Or.inl ⟨by kernel_rfl, fun V hV => yield28c rfl hV _ rfl rfl⟩) hS ?_
  (try simp only [Act.put, List.getElem_toArray, List.getElem_cons_succ, List.getElem_cons_zero, List.setIfInBounds_toArray, List.set_cons_zero, List.set_cons_succ])
  refine wpAnyH_take (i := 1) (v := ?_) rfl (by kernel_rfl) (by kernel_rfl) (by kernel_rfl) (fun _ _ _ h => h) (Or.inl ⟨by kernel_rfl, ?_⟩) hS ?_
  rotate_left
  · intro w hSw; (try dsimp only at hSw); go_simp; try (with_reducible rfl)
  (try simp only [Act.put, List.getElem_toArray, List.getElem_cons_succ, List.getElem_cons_zero, List.setIfInBounds_toArray, List.set_cons_zero, List.set_cons_succ])
  refine wpAnyH_ready (rs := [2]) (by kernel_rfl) (by simp) ?_
  refine AllReadyH.cons rfl (fun HH0 HH1 => ?_) AllReadyH.nil
  rw [if_pos (by kernel_rfl)]
  refine wp_store28c _ _ rfl w.heap.size (zC z) zeroC rfl (zC_one z) rfl rfl Xd.out.1 rfl ?_
  intro W9 B9 U9
  have X9 : Hid (Box 28 W9 w.heap.size (zC z) ∧ Below w.heap.size w W9 ∧ Box 28 W9 b9 (zC z)) := ⟨B9, Xd.out.2.2.1.trans (U9.below (Nat.le_refl _) Xd.out.2.2.1.size), U9.box Xd.out.2.1 (by have := Xd.out.2.2.2; omega)⟩
  clear B9 U9 Xd
  refine HH1.out _ _ X9.out.2.2 (fun hS9 => ?_)
  clear HH1 HH0 hS
  (try simp only [Act.put, List.getElem_toArray, List.getElem_cons_succ, List.getElem_cons_zero, List.setIfInBounds_toArray, List.set_cons_zero, List.set_cons_succ])
  refine wpAnyH_take (i := 3) (v := ?_) rfl (by kernel_rfl) (by kernel_rfl) (by kernel_rfl) (fun _ _ _ h => h) (Or.inl ⟨by kernel_rfl, ?_⟩) hS9 ?_
  rotate_left
  · intro w hSw; (try dsimp only at hSw); go_simp; try (with_reducible rfl)
  (try simp only [Act.put, List.getElem_toArray, List.getElem_cons_succ, List.getElem_cons_zero, List.setIfInBounds_toArray, List.set_cons_zero, List.set_cons_succ])
  refine wpAnyH_done (by kernel_rfl) ?_ _
  clear hS9
  go_wp2_with fail
  exact bodyPost_ret (v := .tuple #[.pointer none, .agg (zC z), .bool true]) (results3c (t := 4) (p := 5) (u := 6) rfl _ _ w.heap.size _ rfl rfl X9.out.1) rfl ⟨_, _, rfl, rfl, zC_one z, X9.out.2.1, .inl rfl⟩
set_option maxHeartbeats 8000000 in
theorem played_in (r : Nat) (h1 : 1 ≤ r) (h2 : r ≤ 100) (av : Option Addr) (len cap : Nat) (ops : Nat → OpD) (w : World) (hsc : ScriptIn w (.slice av len cap) len ops) :
    Calls Try.prog 8 #[.int .i64 (r : Nat), .slice av len cap] w fun e w' => ∃ pv cs, e = .returned (.tuple #[pv, .agg cs, .bool true]) ∧ Left w w' pv cs := by
  have hlen : len ≤ 9223372036854775807 := by
    rcases hsc with ⟨rfl, _⟩ | ⟨b, off, cap, _, h, _⟩
    · omega
    · exact h
  have HS : Hid (ScriptIn w (.slice av len cap) len ops) := hsc
  clear hsc
  have n1 : decide ((r : Int) < 1) = false := by simp; omega
  have n2 : decide ((100 : Int) < (r : Int)) = false := by simp; omega
  have CN : Hid (∀ V, Calls Try.prog 9 #[.int .i64 (r : Nat)] V fun e w' => ∃ fb, e = .returned (.tuple #[.pointer (some ⟨fb, 0, none⟩), .int .i64 0]) ∧ FifoAt w' fb fb (newK r) ∧ V.heap.size ≤ fb ∧ Below V.heap.size V w') := fun V => new_yes r h1 (by omega) V
  have HZ : Hid (zC (r : Nat) = fifoC (newK r) (.slice none 0 0) ∧ (newK r).l.length = 0) := ⟨rfl, rfl⟩
  clear h1 h2
  go_enter Try.func8, Try.ntmps8
  go_upto_region 0 with fail
  refine wp_region_list ?_
  (refine wpList_step (fun KK hKK => ?_); go_simp; refine hKK _ _ ?_; clear hKK KK)
  refine wpList_alloc_zero 28 zeroC 4 zinfo28 rfl rfl ?_
  have X0 : Hid (Box 28 (w.alloc (.cells zeroC 28)) w.heap.size zeroC ∧ Below w.heap.size w (w.alloc (.cells zeroC 28))) := ⟨Box.new 28 w _, (Below.refl _ _).alloc (Nat.le_refl _) _⟩
  generalize w.alloc (.cells zeroC 28) = W0 at *
  go_upto_region 1 with fail
  refine wp_region_list ?_
  (refine wpList_step (fun KK hKK => ?_); go_simp; refine hKK _ _ ?_; clear hKK KK)
  (refine wpList_step (fun KK hKK => ?_); go_simp; refine hKK _ _ ?_; clear hKK KK)
  refine wpList_alloc_zero 28 zeroC 4 zinfo28 rfl rfl ?_
  refine wpList_store28c rfl _ _ rfl W0.heap.size (zC (r : Nat)) zeroC rfl (zC_one (r : Nat)) rfl rfl (Box.new 28 W0 _) rfl ?_
  intro W1 B1 U1
  have X1 : Hid (Box 28 W1 w.heap.size zeroC ∧ Box 28 W1 W0.heap.size (zC (r : Nat)) ∧ Below w.heap.size w W1 ∧ w.heap.size < W0.heap.size) := by
    have b1 : Below W0.heap.size W0 (W0.alloc (.cells zeroC 28)) := (Below.refl _ _).alloc (Nat.le_refl _) _
    have b2 := b1.trans (U1.below (Nat.le_refl _) b1.size)
    exact ⟨X0.out.1.step b2, B1, X0.out.2.trans (b2.mono X0.out.2.size), X0.out.1.lt⟩
  clear B1 U1 X0
  generalize W0.heap.size = b9 at *
  go_wp2_with fail
  refine (CN.out _).mono ?_
  rintro e w1 ⟨fb, rfl, h1, g1, b1⟩
  have Y : Hid (Py w w1 fb fb b9 fb (newK r) (.slice none 0 0) (fifoC (newK r) (.slice none 0 0)) zeroC) := by
    have x := X1.out
    rw [HZ.out.1] at x
    obtain ⟨x1, x2, x3, x4⟩ := x
    have s1 := x2.lt
    exact ⟨h1, RL.nil _ _, x2.step b1, x1.step b1, x3.trans (b1.mono x3.size), ⟨by omega, by omega, x4, by omega, by omega, by omega, by omega⟩, .inl rfl, h1.lt.1⟩
  clear h1 g1 b1 X1
  go_wp2_with fail
  go_loopw [10] (fun i wr => ∃ (j g d : Nat) (K : Fi) (va : Option Addr) (k vc : Nat), j ≤ len ∧ j ≤ 40 ∧ i = .int .i64 j ∧ K.l.length = k ∧ Py w wr fb g b9 d K (.slice va k vc) (fifoC K (.slice va k vc)) zeroC) (fun i _ => 40 - (intOf i).toNat)
  case atStart => exact ⟨0, fb, fb, newK r, none, 0, 0, Nat.zero_le _, by omega, rfl, rfl, Y.out⟩
  case round =>
    obtain ⟨j, g, d, K, va, k, vc, hj, hj40, rfl, hk, hpy⟩ := hrel
    clear Y HZ CN
    have X : Hid (Py w wr fb g b9 d K (.slice va k vc) (fifoC K (.slice va k vc)) zeroC) := hpy
    have HK : Hid (K.l.length = k) := hk
    clear hpy hk
    by_cases hgo : j < len ∧ j < 40
    · obtain ⟨hg1, hg2⟩ := hgo
      have hgi1 : (j : Int) < len := by omega
      have hgi2 : (j : Int) < 40 := by omega
      rcases HS.out with ⟨h0, _⟩ | ⟨sb, off, cs, hv, _, hops⟩
      · omega
      simp only [Value.slice.injEq] at hv
      obtain ⟨rfl, -, rfl⟩ := hv
      obtain ⟨hoc, hin, hl⟩ := hops j hg1
      clear hops
      generalize ops j = o at *
      obtain ⟨z, n, a, c, D, dd⟩ := o
      simp only at hoc hl
      have HJ : Hid (j + 1 ≤ len ∧ j + 1 ≤ 40) := ⟨hg1, hg2⟩
      obtain ⟨dl, hdl⟩ : ∃ dl, D.length = dl := ⟨_, rfl⟩
      by_cases hsm : dl ≤ 200
      · have DC0 : ∀ V g d va vc, FifoAt V fb g K → RL V (.slice va K.l.length vc) d K.l → Off d fb g K.l → Below w.heap.size w V → Calls Try.prog 20 #[.pointer (some ⟨fb, 0, none⟩), .agg (fifoC K (.slice va K.l.length vc)), .agg #[.int .i64 z, .int .i64 n, .slice a D.length c]] V fun e w' => DoP V w' fb g d (doK K ⟨z, n, a, c, D, dd⟩) e := fun V g d va vc h1 h2 h3 h4 => do_any h1 h2 h3 ⟨z, n, a, c, D, dd⟩ (hin.step h4) (by simp only; omega)
        obtain ⟨K2, hK2⟩ : ∃ K2, doK K ⟨z, n, a, c, D, dd⟩ = K2 := ⟨_, rfl⟩
        obtain ⟨k2, hk2⟩ : ∃ k2, K2.l.length = k2 := ⟨_, rfl⟩
        have DC : Hid (∀ V, FifoAt V fb g K → RL V (.slice va k vc) d K.l → Off d fb g K.l → Below w.heap.size w V → d < V.heap.size → Calls Try.prog 20 #[.pointer (some ⟨fb, 0, none⟩), .agg (fifoC K (.slice va k vc)), .agg #[.int .i64 z, .int .i64 n, .slice a dl c]] V fun e w' => ∃ v2 c2 d2 g2, e = .returned (.tuple #[.agg (fifoC K2 (.slice v2 k2 c2)), .bool true]) ∧ FifoAt w' fb g2 K2 ∧ RL w' (.slice v2 k2 c2) d2 K2.l ∧ Two fb g V w' ∧ (g2 = g ∨ V.heap.size ≤ g2) ∧ (d2 = d ∨ V.heap.size ≤ d2) ∧ Off d2 fb g2 K2.l ∧ d2 < w'.heap.size) := fun V q1 q2 q3 q4 q5 => by
          have := DC0 V g d va vc
          rw [HK.out, hdl] at this
          unfold DoP at this
          rw [hK2, hk2] at this
          refine (this q1 q2 q3 q4).mono ?_
          rintro e w' ⟨v2, c2, d2, g2, e1, e2, e3, e4, e5, e6, e7⟩
          by_cases e8 : K2.l = []
          · exact ⟨v2, c2, d, g2, e1, e2, (by rw [e8] at e3 ⊢; exact e3.of_nil), e4, e5, .inl rfl, .inl e8, Nat.lt_of_lt_of_le q5 e4.size⟩
          · exact ⟨v2, c2, d2, g2, e1, e2, e3, e4, e5, e6, e7, e3.old e8⟩
        have SC : Hid (∀ V g2 d2 v2 c2, FifoAt V fb g2 K2 → RL V (.slice v2 k2 c2) d2 K2.l → Calls Try.prog 17 #[.pointer (some ⟨fb, 0, none⟩), .agg (fifoC K2 (.slice v2 k2 c2))] V fun e w' => e = .returned (.bool true) ∧ Below V.heap.size V w') := fun V g2 d2 v2 c2 h1 h2 => by
          have := law_same K2 fb g2 d2 v2 c2 V h1
          rw [hk2] at this
          exact this h2
        have HK2 : Hid (K2.l.length = k2) := hk2
        rw [hdl] at hoc
        have HO : Hid (w.cell? ⟨sb, off + j * 3, none⟩ = some (.int .i64 z) ∧ w.cell? ⟨sb, off + j * 3 + 1, none⟩ = some (.int .i64 n) ∧ w.cell? ⟨sb, off + j * 3 + 2, none⟩ = some (.slice a dl c)) := hoc
        obtain ⟨k0, k1, k3⟩ := three_later hoc X.out.2.2.2.2.1
        have n3 : decide ((200 : Int) < (dl : Int)) = false := by simp; omega
        have n4 : decide (200 < dl) = false := by simp; omega
        clear hoc hin DC0 hl hdl hK2 hk2 hj hj40 hg1 hg2
        go_upto_region 12 with fail
        have Xd : Hid (Py w wr.drew fb g b9 d K (.slice va k vc) (fifoC K (.slice va k vc)) zeroC) := X.out.step (Below.drew (Below.refl _ _))
        refine wp_region_held_drew (S := fun V => Box 28 V b9 (fifoC K (.slice va k vc)) ∧ V.cell? ⟨sb, off + j * 3, none⟩ = some (.int .i64 z) ∧ V.cell? ⟨sb, off + j * 3 + 1, none⟩ = some (.int .i64 n) ∧ V.cell? ⟨sb, off + j * 3 + 2, none⟩ = some (.slice a dl c)) (by kernel_rfl) ⟨Xd.out.2.2.1, three_later HO.out Xd.out.2.2.2.2.1⟩ ?_
        intro hS
        clear X
        generalize wr.drew = Vd at *
        refine wpAnyH_take (i := 0) (v := ?_) rfl (by kernel_rfl) (by kernel_rfl) (by kernel_rfl) (fun _ _ _ h => h) (Or.inl ⟨by kernel_rfl, ?_⟩) hS ?_
        rotate_left
        · intro w hSw; (try dsimp only at hSw); go_simp; try (with_reducible rfl)
        (try simp only [Act.put, List.getElem_toArray, List.getElem_cons_succ, List.getElem_cons_zero, List.setIfInBounds_toArray, List.set_cons_zero, List.set_cons_succ])
        refine wpAnyH_take (i := 1) (v := .agg (fifoC K (.slice va k vc))) rfl (by kernel_rfl) (by kernel_rfl) (by kernel_rfl) (fun _ _ _ h => h) (Or.inl ⟨by kernel_rfl, fun V hV => yield28 hV.1 _ rfl rfl⟩) hS ?_
        (try simp only [Act.put, List.getElem_toArray, List.getElem_cons_succ, List.getElem_cons_zero, List.setIfInBounds_toArray, List.set_cons_zero, List.set_cons_succ])
        refine wpAnyH_take (i := 2) (v := ?_) rfl (by kernel_rfl) (by kernel_rfl) (by kernel_rfl) (fun _ _ _ h => h) (Or.inl ⟨by kernel_rfl, ?_⟩) hS ?_
        rotate_left
        · intro w hSw; (try dsimp only at hSw); go_simp; try (with_reducible rfl)
        (try simp only [Act.put, List.getElem_toArray, List.getElem_cons_succ, List.getElem_cons_zero, List.setIfInBounds_toArray, List.set_cons_zero, List.set_cons_succ])
        refine wpAnyH_take (i := 3) (v := ?_) rfl (by kernel_rfl) (by kernel_rfl) (by kernel_rfl) (fun _ _ _ h => h) (Or.inl ⟨by kernel_rfl, ?_⟩) hS ?_
        rotate_left
        · intro w hSw; (try dsimp only at hSw); go_simp; try (with_reducible rfl)
        (try simp only [Act.put, List.getElem_toArray, List.getElem_cons_succ, List.getElem_cons_zero, List.setIfInBounds_toArray, List.set_cons_zero, List.set_cons_succ])
        refine wpAnyH_take (i := 4) (v := ?_) rfl (by kernel_rfl) (by kernel_rfl) (by kernel_rfl) (fun _ _ _ h => h) (Or.inl ⟨by kernel_rfl, ?_⟩) hS ?_
        rotate_left
        · intro w hSw; (try dsimp only at hSw); go_simp; try (with_reducible rfl)
        (try simp only [Act.put, List.getElem_toArray, List.getElem_cons_succ, List.getElem_cons_zero, List.setIfInBounds_toArray, List.set_cons_zero, List.set_cons_succ])
        refine wpAnyH_take (i := 5) (v := ?_) rfl (by kernel_rfl) (by kernel_rfl) (by kernel_rfl) (fun _ _ _ h => h) (Or.inl ⟨by kernel_rfl, ?_⟩) hS ?_
        rotate_left
        · intro w hSw; (try dsimp only at hSw); go_simp; try (with_reducible rfl)
        (try simp only [Act.put, List.getElem_toArray, List.getElem_cons_succ, List.getElem_cons_zero, List.setIfInBounds_toArray, List.set_cons_zero, List.set_cons_succ])
        refine wpAnyH_ready (rs := [6, 10]) (by kernel_rfl) (by simp) ?_
        refine AllReadyH.cons rfl (fun HH0 HH1 => ?_) (AllReadyH.cons rfl (fun HH0 HH1 => ?_) AllReadyH.nil)
        · have _hm : True := trivial
          go_simp
          refine (DC.out _ Xd.out.1 Xd.out.2.1 Xd.out.2.2.2.2.2.2.1 Xd.out.2.2.2.2.1 Xd.out.2.2.2.2.2.2.2).mono ?_
          rintro e w20 ⟨v2, c2, d2, g2, rfl, hf, hr, ht, hg, hd, ho, hl9⟩
          have X20 : Hid (Py w w20 fb g2 b9 d2 K2 (.slice v2 k2 c2) (fifoC K (.slice va k vc)) zeroC) := Xd.out.do hf hr ht hg hd ho hl9
          clear hf hr ht hg hd ho hl9 Xd
          refine HH1.out _ _ ⟨X20.out.2.2.1, three_later HO.out X20.out.2.2.2.2.1⟩ (fun hS20 => ?_)
          clear HH1 HH0 hS
          (try simp only [Act.put, List.getElem_toArray, List.getElem_cons_succ, List.getElem_cons_zero, List.setIfInBounds_toArray, List.set_cons_zero, List.set_cons_succ])
          refine wpAnyH_take (i := 7) (v := ?_) rfl (by kernel_rfl) (by kernel_rfl) (by kernel_rfl) (fun _ _ _ h => h) (Or.inl ⟨by kernel_rfl, ?_⟩) hS20 ?_
          rotate_left
          · intro w hSw; (try dsimp only at hSw); go_simp; try (with_reducible rfl)
          (try simp only [Act.put, List.getElem_toArray, List.getElem_cons_succ, List.getElem_cons_zero, List.setIfInBounds_toArray, List.set_cons_zero, List.set_cons_succ])
          refine wpAnyH_take (i := 8) (v := ?_) rfl (by kernel_rfl) (by kernel_rfl) (by kernel_rfl) (fun _ _ _ h => h) (Or.inl ⟨by kernel_rfl, ?_⟩) hS20 ?_
          rotate_left
          · intro w hSw; (try dsimp only at hSw); go_simp; try (with_reducible rfl)
          (try simp only [Act.put, List.getElem_toArray, List.getElem_cons_succ, List.getElem_cons_zero, List.setIfInBounds_toArray, List.set_cons_zero, List.set_cons_succ])
          refine wpAnyH_take (i := 9) (v := ?_) rfl (by kernel_rfl) (by kernel_rfl) (by kernel_rfl) (fun _ _ _ h => h) (Or.inl ⟨by kernel_rfl, ?_⟩) hS20 ?_
          rotate_left
          · intro w hSw; (try dsimp only at hSw); go_simp; try (with_reducible rfl)
          (try simp only [Act.put, List.getElem_toArray, List.getElem_cons_succ, List.getElem_cons_zero, List.setIfInBounds_toArray, List.set_cons_zero, List.set_cons_succ])
          refine wpAnyH_ready (rs := [10]) (by kernel_rfl) (by simp) ?_
          refine AllReadyH.cons rfl (fun HH0 HH1 => ?_) AllReadyH.nil
          have HD : K2.l = [] ∨ d2 ≠ w20.heap.size := by
            by_cases e : K2.l = []
            · exact .inl e
            · exact .inr (Nat.ne_of_lt (X20.out.2.1.old e))
          rw [if_pos (by kernel_rfl)]
          refine wp_alloc_zero 28 zeroC 4 zinfo28 rfl ?_
          have X21 : Hid (Py w (w20.alloc (.cells zeroC 28)) fb g2 b9 d2 K2 (.slice v2 k2 c2) (fifoC K (.slice va k vc)) zeroC ∧ Box 28 (w20.alloc (.cells zeroC 28)) w20.heap.size zeroC ∧ (w20.heap.size ≠ b9 ∧ w.heap.size < w20.heap.size ∧ fb ≠ w20.heap.size ∧ g2 ≠ w20.heap.size ∧ (K2.l = [] ∨ d2 ≠ w20.heap.size))) := by
            have h1 := X20.out.2.2.1.lt
            have h2 := X20.out.2.2.2.1.lt
            have h3 := X20.out.1.lt
            have h4 : K2.l = [] ∨ d2 ≠ w20.heap.size := HD
            exact ⟨X20.out.step ((Below.refl _ _).alloc (Nat.le_refl _) _), Box.new 28 _ _, by omega, h2, by omega, by omega, h4⟩
          clear X20
          generalize w20.alloc (.cells zeroC 28) = w21 at *
          generalize w20.heap.size = q at *
          refine HH1.out _ _ ⟨X21.out.1.2.2.1, three_later HO.out X21.out.1.2.2.2.2.1⟩ (fun hS21 => ?_)
          clear HH1 HH0 hS20
          (try simp only [Act.put, List.getElem_toArray, List.getElem_cons_succ, List.getElem_cons_zero, List.setIfInBounds_toArray, List.set_cons_zero, List.set_cons_succ])
          refine wpAnyH_ready (rs := [11]) (by kernel_rfl) (by simp) ?_
          refine AllReadyH.cons rfl (fun HH0 HH1 => ?_) AllReadyH.nil
          rw [if_pos (by kernel_rfl)]
          refine wp_store28 _ _ rfl q K2 _ _ _ zeroC rfl rfl X21.out.2.1 rfl ?_
          intro W9 B9 U9
          have X9 : Hid (Py w W9 fb g2 b9 d2 K2 (.slice v2 k2 c2) (fifoC K (.slice va k vc)) zeroC ∧ Box 28 W9 q (fifoC K2 (.slice v2 k2 c2))) := ⟨X21.out.1.other U9 X21.out.2.2.1 X21.out.2.2.2.1 X21.out.2.2.2.2.1 X21.out.2.2.2.2.2.1 X21.out.2.2.2.2.2.2, B9⟩
          clear B9 U9 X21
          refine HH1.out _ _ ⟨X9.out.1.2.2.1, three_later HO.out X9.out.1.2.2.2.2.1⟩ (fun hS9 => ?_)
          clear HH1 HH0 hS21
          (try simp only [Act.put, List.getElem_toArray, List.getElem_cons_succ, List.getElem_cons_zero, List.setIfInBounds_toArray, List.set_cons_zero, List.set_cons_succ])
          refine wpAnyH_take (i := 12) (v := ?_) rfl (by kernel_rfl) (by kernel_rfl) (by kernel_rfl) (fun _ _ _ h => h) (Or.inl ⟨by kernel_rfl, ?_⟩) hS9 ?_
          rotate_left
          · intro w hSw; (try dsimp only at hSw); go_simp; try (with_reducible rfl)
          (try simp only [Act.put, List.getElem_toArray, List.getElem_cons_succ, List.getElem_cons_zero, List.setIfInBounds_toArray, List.set_cons_zero, List.set_cons_succ])
          refine wpAnyH_done (by kernel_rfl) ?_ _
          clear hS9
          go_upto_region 13 with fail
          refine wp_region_list ?_
          (refine wpList_step (fun KK hKK => ?_); go_simp; refine hKK _ _ ?_; clear hKK KK)
          (refine wpList_step (fun KK hKK => ?_); go_simp; refine hKK _ _ ?_; clear hKK KK)
          (refine wpList_step (fun KK hKK => ?_); go_simp; refine hKK _ _ ?_; clear hKK KK)
          (refine wpList_step (fun KK hKK => ?_); go_simp; refine hKK _ _ ?_; clear hKK KK)
          refine wpList_load28G (by kernel_rfl) _ rfl q K2 _ _ _ rfl X9.out.2 ?_
          refine wpList_step (fun KK hKK => ?_)
          go_simp
          refine (SC.out _ _ _ _ _ X9.out.1.1 X9.out.1.2.1).mono ?_
          rintro e w10 ⟨rfl, hb10⟩
          have X10 : Hid (Py w w10 fb g2 b9 d2 K2 (.slice v2 k2 c2) (fifoC K (.slice va k vc)) zeroC ∧ Box 28 w10 q (fifoC K2 (.slice v2 k2 c2))) := ⟨X9.out.1.step hb10, X9.out.2.step hb10⟩
          clear hb10 X9
          refine hKK _ _ ?_
          clear hKK KK
          go_upto_region 15 with fail
          refine wp_region_list ?_
          refine wpList_load28 rfl _ rfl q K2 _ _ _ rfl X10.out.2 ?_
          refine wpList_store28 rfl _ _ rfl b9 K2 _ _ _ (fifoC K (.slice va k vc)) rfl rfl X10.out.1.2.2.1 rfl ?_
          intro W11 B11 U11
          have X11 : Hid (Py w W11 fb g2 b9 d2 K2 (.slice v2 k2 c2) (fifoC K2 (.slice v2 k2 c2)) zeroC) := X10.out.1.box B11 U11
          clear B11 U11 X10
          go_wp2_with fail
          go_roundw
          case rel => exact ⟨j + 1, g2, d2, K2, v2, k2, c2, HJ.out.1, HJ.out.2, by go_num, HK2.out, X11.out⟩
          case measure => simp [intOf]; have := HJ.out.2; omega
        · have _hm : True := trivial
          have HD : K2.l = [] ∨ d ≠ Vd.heap.size := .inr (Nat.ne_of_lt Xd.out.2.2.2.2.2.2.2)
          rw [if_pos (by kernel_rfl)]
          refine wp_alloc_zero 28 zeroC 4 zinfo28 rfl ?_
          have X20 : Hid (Py w (Vd.alloc (.cells zeroC 28)) fb g b9 d K (.slice va k vc) (fifoC K (.slice va k vc)) zeroC ∧ Box 28 (Vd.alloc (.cells zeroC 28)) Vd.heap.size zeroC ∧ (Vd.heap.size ≠ b9 ∧ w.heap.size < Vd.heap.size ∧ fb ≠ Vd.heap.size ∧ g ≠ Vd.heap.size ∧ (K2.l = [] ∨ d ≠ Vd.heap.size))) := by
            have h1 := Xd.out.2.2.1.lt
            have h2 := Xd.out.2.2.2.1.lt
            have h3 := Xd.out.1.lt
            have h4 : K2.l = [] ∨ d ≠ Vd.heap.size := HD
            exact ⟨Xd.out.step ((Below.refl _ _).alloc (Nat.le_refl _) _), Box.new 28 _ _, by omega, h2, by omega, by omega, h4⟩
          clear Xd
          generalize Vd.alloc (.cells zeroC 28) = w20 at *
          generalize Vd.heap.size = q at *
          refine HH1.out _ _ ⟨X20.out.1.2.2.1, three_later HO.out X20.out.1.2.2.2.2.1⟩ (fun hS20 => ?_)
          clear HH1 HH0 hS
          (try simp only [Act.put, List.getElem_toArray, List.getElem_cons_succ, List.getElem_cons_zero, List.setIfInBounds_toArray, List.set_cons_zero, List.set_cons_succ])
          refine wpAnyH_ready (rs := [6]) (by kernel_rfl) (by simp) ?_
          refine AllReadyH.cons rfl (fun HH0 HH1 => ?_) AllReadyH.nil
          go_simp
          refine (DC.out _ X20.out.1.1 X20.out.1.2.1 X20.out.1.2.2.2.2.2.2.1 X20.out.1.2.2.2.2.1 X20.out.1.2.2.2.2.2.2.2).mono ?_
          rintro e w21 ⟨v2, c2, d2, g2, rfl, hf, hr, ht, hg, hd, ho, hl9⟩
          have X21 : Hid (Py w w21 fb g2 b9 d2 K2 (.slice v2 k2 c2) (fifoC K (.slice va k vc)) zeroC ∧ Box 28 w21 q zeroC ∧ (q ≠ b9 ∧ w.heap.size < q ∧ fb ≠ q ∧ g2 ≠ q ∧ (K2.l = [] ∨ d2 ≠ q))) := by
            obtain ⟨x1, x2, x3⟩ := X20.out
            have hq := x2.lt
            have hdq : K2.l = [] ∨ d2 ≠ q := by
              rcases hd with rfl | hd
              · exact x3.2.2.2.2
              · exact .inr (by omega)
            exact ⟨x1.do hf hr ht hg hd ho hl9, ht.box x2 (Ne.symm x3.2.2.1) (Ne.symm x3.2.2.2.1), x3.1, x3.2.1, x3.2.2.1, by omega, hdq⟩
          clear hf hr ht hg hd ho hl9 X20
          refine HH1.out _ _ ⟨X21.out.1.2.2.1, three_later HO.out X21.out.1.2.2.2.2.1⟩ (fun hS21 => ?_)
          clear HH1 HH0 hS20
          (try simp only [Act.put, List.getElem_toArray, List.getElem_cons_succ, List.getElem_cons_zero, List.setIfInBounds_toArray, List.set_cons_zero, List.set_cons_succ])
          refine wpAnyH_take (i := 7) (v := ?_) rfl (by kernel_rfl) (by kernel_rfl) (by kernel_rfl) (fun _ _ _ h => h) (Or.inl ⟨by kernel_rfl, ?_⟩) hS21 ?_
          rotate_left
          · intro w hSw; (try dsimp only at hSw); go_simp; try (with_reducible rfl)
          (try simp only [Act.put, List.getElem_toArray, List.getElem_cons_succ, List.getElem_cons_zero, List.setIfInBounds_toArray, List.set_cons_zero, List.set_cons_succ])
          refine wpAnyH_take (i := 8) (v := ?_) rfl (by kernel_rfl) (by kernel_rfl) (by kernel_rfl) (fun _ _ _ h => h) (Or.inl ⟨by kernel_rfl, ?_⟩) hS21 ?_
          rotate_left
          · intro w hSw; (try dsimp only at hSw); go_simp; try (with_reducible rfl)
          (try simp only [Act.put, List.getElem_toArray, List.getElem_cons_succ, List.getElem_cons_zero, List.setIfInBounds_toArray, List.set_cons_zero, List.set_cons_succ])
          refine wpAnyH_take (i := 9) (v := ?_) rfl (by kernel_rfl) (by kernel_rfl) (by kernel_rfl) (fun _ _ _ h => h) (Or.inl ⟨by kernel_rfl, ?_⟩) hS21 ?_
          rotate_left
          · intro w hSw; (try dsimp only at hSw); go_simp; try (with_reducible rfl)
          (try simp only [Act.put, List.getElem_toArray, List.getElem_cons_succ, List.getElem_cons_zero, List.setIfInBounds_toArray, List.set_cons_zero, List.set_cons_succ])
          refine wpAnyH_ready (rs := [11]) (by kernel_rfl) (by simp) ?_
          refine AllReadyH.cons rfl (fun HH0 HH1 => ?_) AllReadyH.nil
          rw [if_pos (by kernel_rfl)]
          refine wp_store28 _ _ rfl q K2 _ _ _ zeroC rfl rfl X21.out.2.1 rfl ?_
          intro W9 B9 U9
          have X9 : Hid (Py w W9 fb g2 b9 d2 K2 (.slice v2 k2 c2) (fifoC K (.slice va k vc)) zeroC ∧ Box 28 W9 q (fifoC K2 (.slice v2 k2 c2))) := ⟨X21.out.1.other U9 X21.out.2.2.1 X21.out.2.2.2.1 X21.out.2.2.2.2.1 X21.out.2.2.2.2.2.1 X21.out.2.2.2.2.2.2, B9⟩
          clear B9 U9 X21
          refine HH1.out _ _ ⟨X9.out.1.2.2.1, three_later HO.out X9.out.1.2.2.2.2.1⟩ (fun hS9 => ?_)
          clear HH1 HH0 hS21
          (try simp only [Act.put, List.getElem_toArray, List.getElem_cons_succ, List.getElem_cons_zero, List.setIfInBounds_toArray, List.set_cons_zero, List.set_cons_succ])
          refine wpAnyH_take (i := 12) (v := ?_) rfl (by kernel_rfl) (by kernel_rfl) (by kernel_rfl) (fun _ _ _ h => h) (Or.inl ⟨by kernel_rfl, ?_⟩) hS9 ?_
          rotate_left
          · intro w hSw; (try dsimp only at hSw); go_simp; try (with_reducible rfl)
          (try simp only [Act.put, List.getElem_toArray, List.getElem_cons_succ, List.getElem_cons_zero, List.setIfInBounds_toArray, List.set_cons_zero, List.set_cons_succ])
          refine wpAnyH_done (by kernel_rfl) ?_ _
          clear hS9
          go_upto_region 13 with fail
          refine wp_region_list ?_
          (refine wpList_step (fun KK hKK => ?_); go_simp; refine hKK _ _ ?_; clear hKK KK)
          (refine wpList_step (fun KK hKK => ?_); go_simp; refine hKK _ _ ?_; clear hKK KK)
          (refine wpList_step (fun KK hKK => ?_); go_simp; refine hKK _ _ ?_; clear hKK KK)
          (refine wpList_step (fun KK hKK => ?_); go_simp; refine hKK _ _ ?_; clear hKK KK)
          refine wpList_load28G (by kernel_rfl) _ rfl q K2 _ _ _ rfl X9.out.2 ?_
          refine wpList_step (fun KK hKK => ?_)
          go_simp
          refine (SC.out _ _ _ _ _ X9.out.1.1 X9.out.1.2.1).mono ?_
          rintro e w10 ⟨rfl, hb10⟩
          have X10 : Hid (Py w w10 fb g2 b9 d2 K2 (.slice v2 k2 c2) (fifoC K (.slice va k vc)) zeroC ∧ Box 28 w10 q (fifoC K2 (.slice v2 k2 c2))) := ⟨X9.out.1.step hb10, X9.out.2.step hb10⟩
          clear hb10 X9
          refine hKK _ _ ?_
          clear hKK KK
          go_upto_region 15 with fail
          refine wp_region_list ?_
          refine wpList_load28 rfl _ rfl q K2 _ _ _ rfl X10.out.2 ?_
          refine wpList_store28 rfl _ _ rfl b9 K2 _ _ _ (fifoC K (.slice va k vc)) rfl rfl X10.out.1.2.2.1 rfl ?_
          intro W11 B11 U11
          have X11 : Hid (Py w W11 fb g2 b9 d2 K2 (.slice v2 k2 c2) (fifoC K2 (.slice v2 k2 c2)) zeroC) := X10.out.1.box B11 U11
          clear B11 U11 X10
          go_wp2_with fail
          go_roundw
          case rel => exact ⟨j + 1, g2, d2, K2, v2, k2, c2, HJ.out.1, HJ.out.2, by go_num, HK2.out, X11.out⟩
          case measure => simp [intOf]; have := HJ.out.2; omega
      · rw [hdl] at hoc
        obtain ⟨k0, k1, k3⟩ := three_later hoc X.out.2.2.2.2.1
        have n3 : decide ((200 : Int) < (dl : Int)) = true := by simp; omega
        have n4 : decide (200 < dl) = true := by simp; omega
        clear hoc hin hl hdl
        go_upto_region 11 with fail
        have Xd : Hid (Py w wr.drew fb g b9 d K (.slice va k vc) (fifoC K (.slice va k vc)) zeroC) := X.out.step (Below.drew (Below.refl _ _))
        refine wp_region_held_drew (S := fun V => Box 28 V b9 (fifoC K (.slice va k vc))) (by kernel_rfl) Xd.out.2.2.1 ?_
        intro hS
        clear X
        generalize wr.drew = Vd at *
        refine wpAnyH_take (i := 0) (v := .agg (fifoC K (.slice va k vc))) rfl (by kernel_rfl) (by kernel_rfl) (by kernel_rfl) (fun _ _ _ h => h) (Or.inl ⟨by kernel_rfl, fun V hV => yield28 hV _ rfl rfl⟩) hS ?_
        (try simp only [Act.put, List.getElem_toArray, List.getElem_cons_succ, List.getElem_cons_zero, List.setIfInBounds_toArray, List.set_cons_zero, List.set_cons_succ])
        refine wpAnyH_take (i := 1) (v := ?_) rfl (by kernel_rfl) (by kernel_rfl) (by kernel_rfl) (fun _ _ _ h => h) (Or.inl ⟨by kernel_rfl, ?_⟩) hS ?_
        rotate_left
        · intro w hSw; (try dsimp only at hSw); go_simp; try (with_reducible rfl)
        (try simp only [Act.put, List.getElem_toArray, List.getElem_cons_succ, List.getElem_cons_zero, List.setIfInBounds_toArray, List.set_cons_zero, List.set_cons_succ])
        refine wpAnyH_ready (rs := [2]) (by kernel_rfl) (by simp) ?_
        refine AllReadyH.cons rfl (fun HH0 HH1 => ?_) AllReadyH.nil
        rw [if_pos (by kernel_rfl)]
        refine wp_store28 _ _ rfl w.heap.size K _ _ _ zeroC rfl rfl Xd.out.2.2.2.1 rfl ?_
        intro W9 B9 U9
        have X9 : Hid (Py w W9 fb g b9 d K (.slice va k vc) (fifoC K (.slice va k vc)) (fifoC K (.slice va k vc))) := Xd.out.res B9 U9
        clear B9 U9 Xd
        refine HH1.out _ _ X9.out.2.2.1 (fun hS9 => ?_)
        clear HH1 HH0 hS
        (try simp only [Act.put, List.getElem_toArray, List.getElem_cons_succ, List.getElem_cons_zero, List.setIfInBounds_toArray, List.set_cons_zero, List.set_cons_succ])
        refine wpAnyH_take (i := 3) (v := ?_) rfl (by kernel_rfl) (by kernel_rfl) (by kernel_rfl) (fun _ _ _ h => h) (Or.inl ⟨by kernel_rfl, ?_⟩) hS9 ?_
        rotate_left
        · intro w hSw; (try dsimp only at hSw); go_simp; try (with_reducible rfl)
        (try simp only [Act.put, List.getElem_toArray, List.getElem_cons_succ, List.getElem_cons_zero, List.setIfInBounds_toArray, List.set_cons_zero, List.set_cons_succ])
        refine wpAnyH_done (by kernel_rfl) ?_ _
        clear hS9
        go_wp2_with fail
        refine bodyPost_ret (v := .tuple #[.pointer none, .agg (fifoC K (.slice va k vc)), .bool true]) (results3b (t := 4) (p := 5) (u := 6) rfl _ _ w.heap.size K _ _ _ rfl X9.out.2.2.2.1) rfl ⟨_, _, rfl, rfl, fifoC_one _ _ _ _, X9.out.2.2.2.2.1, .inl rfl⟩
    · have hgo2 : ¬ ((j : Int) < len) ∨ ¬ ((j : Int) < 40) := by omega
      by_cases hq : (j : Int) < len
      · have hq2 : ¬ (j : Int) < 40 := by omega
        clear hgo hgo2
        go_upto_region 16 with fail
        have Xd : Hid (Py w wr.drew fb g b9 d K (.slice va k vc) (fifoC K (.slice va k vc)) zeroC) := X.out.step (Below.drew (Below.refl _ _))
        refine wp_region_held_drew (S := fun V => Box 28 V b9 (fifoC K (.slice va k vc))) (by kernel_rfl) Xd.out.2.2.1 ?_
        intro hS
        clear X
        generalize wr.drew = Vd at *
        refine wpAnyH_take (i := 0) (v := ?_) rfl (by kernel_rfl) (by kernel_rfl) (by kernel_rfl) (fun _ _ _ h => h) (Or.inl ⟨by kernel_rfl, ?_⟩) hS ?_
        rotate_left
        · intro w hSw; (try dsimp only at hSw); go_simp; try (with_reducible rfl)
        (try simp only [Act.put, List.getElem_toArray, List.getElem_cons_succ, List.getElem_cons_zero, List.setIfInBounds_toArray, List.set_cons_zero, List.set_cons_succ])
        refine wpAnyH_take (i := 1) (v := .agg (fifoC K (.slice va k vc))) rfl (by kernel_rfl) (by kernel_rfl) (by kernel_rfl) (fun _ _ _ h => h) (Or.inl ⟨by kernel_rfl, fun V hV => yield28 hV _ rfl rfl⟩) hS ?_
        (try simp only [Act.put, List.getElem_toArray, List.getElem_cons_succ, List.getElem_cons_zero, List.setIfInBounds_toArray, List.set_cons_zero, List.set_cons_succ])
        refine wpAnyH_take (i := 2) (v := ?_) rfl (by kernel_rfl) (by kernel_rfl) (by kernel_rfl) (fun _ _ _ h => h) (Or.inl ⟨by kernel_rfl, ?_⟩) hS ?_
        rotate_left
        · intro w hSw; (try dsimp only at hSw); go_simp; try (with_reducible rfl)
        (try simp only [Act.put, List.getElem_toArray, List.getElem_cons_succ, List.getElem_cons_zero, List.setIfInBounds_toArray, List.set_cons_zero, List.set_cons_succ])
        refine wpAnyH_ready (rs := [3]) (by kernel_rfl) (by simp) ?_
        refine AllReadyH.cons rfl (fun HH0 HH1 => ?_) AllReadyH.nil
        rw [if_pos (by kernel_rfl)]
        refine wp_store28 _ _ rfl w.heap.size K _ _ _ zeroC rfl rfl Xd.out.2.2.2.1 rfl ?_
        intro W9 B9 U9
        have X9 : Hid (Py w W9 fb g b9 d K (.slice va k vc) (fifoC K (.slice va k vc)) (fifoC K (.slice va k vc))) := Xd.out.res B9 U9
        clear B9 U9 Xd
        refine HH1.out _ _ X9.out.2.2.1 (fun hS9 => ?_)
        clear HH1 HH0 hS
        (try simp only [Act.put, List.getElem_toArray, List.getElem_cons_succ, List.getElem_cons_zero, List.setIfInBounds_toArray, List.set_cons_zero, List.set_cons_succ])
        refine wpAnyH_take (i := 4) (v := ?_) rfl (by kernel_rfl) (by kernel_rfl) (by kernel_rfl) (fun _ _ _ h => h) (Or.inl ⟨by kernel_rfl, ?_⟩) hS9 ?_
        rotate_left
        · intro w hSw; (try dsimp only at hSw); go_simp; try (with_reducible rfl)
        (try simp only [Act.put, List.getElem_toArray, List.getElem_cons_succ, List.getElem_cons_zero, List.setIfInBounds_toArray, List.set_cons_zero, List.set_cons_succ])
        refine wpAnyH_done (by kernel_rfl) ?_ _
        clear hS9
        go_wp2_with fail
        refine bodyPost_ret (v := .tuple #[.pointer (some ⟨fb, 0, none⟩), .agg (fifoC K (.slice va k vc)), .bool true]) (results3b (t := 4) (p := 5) (u := 6) rfl _ _ w.heap.size K _ _ _ rfl X9.out.2.2.2.1) rfl ⟨_, _, rfl, rfl, fifoC_one _ _ _ _, X9.out.2.2.2.2.1, .inr ⟨fb, g, d, K, va, vc, rfl, by rw [HK.out], X9.out.1, by rw [HK.out]; exact X9.out.2.1, X9.out.2.2.2.2.2.2.1, Nat.le_of_lt X9.out.2.2.2.2.2.1.1, Nat.le_of_lt X9.out.2.2.2.2.2.1.2.1⟩⟩
      · clear hgo hgo2
        go_upto_region 16 with fail
        have Xd : Hid (Py w wr.drew fb g b9 d K (.slice va k vc) (fifoC K (.slice va k vc)) zeroC) := X.out.step (Below.drew (Below.refl _ _))
        refine wp_region_held_drew (S := fun V => Box 28 V b9 (fifoC K (.slice va k vc))) (by kernel_rfl) Xd.out.2.2.1 ?_
        intro hS
        clear X
        generalize wr.drew = Vd at *
        refine wpAnyH_take (i := 0) (v := ?_) rfl (by kernel_rfl) (by kernel_rfl) (by kernel_rfl) (fun _ _ _ h => h) (Or.inl ⟨by kernel_rfl, ?_⟩) hS ?_
        rotate_left
        · intro w hSw; (try dsimp only at hSw); go_simp; try (with_reducible rfl)
        (try simp only [Act.put, List.getElem_toArray, List.getElem_cons_succ, List.getElem_cons_zero, List.setIfInBounds_toArray, List.set_cons_zero, List.set_cons_succ])
        refine wpAnyH_take (i := 1) (v := .agg (fifoC K (.slice va k vc))) rfl (by kernel_rfl) (by kernel_rfl) (by kernel_rfl) (fun _ _ _ h => h) (Or.inl ⟨by kernel_rfl, fun V hV => yield28 hV _ rfl rfl⟩) hS ?_
        (try simp only [Act.put, List.getElem_toArray, List.getElem_cons_succ, List.getElem_cons_zero, List.setIfInBounds_toArray, List.set_cons_zero, List.set_cons_succ])
        refine wpAnyH_take (i := 2) (v := ?_) rfl (by kernel_rfl) (by kernel_rfl) (by kernel_rfl) (fun _ _ _ h => h) (Or.inl ⟨by kernel_rfl, ?_⟩) hS ?_
        rotate_left
        · intro w hSw; (try dsimp only at hSw); go_simp; try (with_reducible rfl)
        (try simp only [Act.put, List.getElem_toArray, List.getElem_cons_succ, List.getElem_cons_zero, List.setIfInBounds_toArray, List.set_cons_zero, List.set_cons_succ])
        refine wpAnyH_ready (rs := [3]) (by kernel_rfl) (by simp) ?_
        refine AllReadyH.cons rfl (fun HH0 HH1 => ?_) AllReadyH.nil
        rw [if_pos (by kernel_rfl)]
        refine wp_store28 _ _ rfl w.heap.size K _ _ _ zeroC rfl rfl Xd.out.2.2.2.1 rfl ?_
        intro W9 B9 U9
        have X9 : Hid (Py w W9 fb g b9 d K (.slice va k vc) (fifoC K (.slice va k vc)) (fifoC K (.slice va k vc))) := Xd.out.res B9 U9
        clear B9 U9 Xd
        refine HH1.out _ _ X9.out.2.2.1 (fun hS9 => ?_)
        clear HH1 HH0 hS
        (try simp only [Act.put, List.getElem_toArray, List.getElem_cons_succ, List.getElem_cons_zero, List.setIfInBounds_toArray, List.set_cons_zero, List.set_cons_succ])
        refine wpAnyH_take (i := 4) (v := ?_) rfl (by kernel_rfl) (by kernel_rfl) (by kernel_rfl) (fun _ _ _ h => h) (Or.inl ⟨by kernel_rfl, ?_⟩) hS9 ?_
        rotate_left
        · intro w hSw; (try dsimp only at hSw); go_simp; try (with_reducible rfl)
        (try simp only [Act.put, List.getElem_toArray, List.getElem_cons_succ, List.getElem_cons_zero, List.setIfInBounds_toArray, List.set_cons_zero, List.set_cons_succ])
        refine wpAnyH_done (by kernel_rfl) ?_ _
        clear hS9
        go_wp2_with fail
        refine bodyPost_ret (v := .tuple #[.pointer (some ⟨fb, 0, none⟩), .agg (fifoC K (.slice va k vc)), .bool true]) (results3b (t := 4) (p := 5) (u := 6) rfl _ _ w.heap.size K _ _ _ rfl X9.out.2.2.2.1) rfl ⟨_, _, rfl, rfl, fifoC_one _ _ _ _, X9.out.2.2.2.2.1, .inr ⟨fb, g, d, K, va, vc, rfl, by rw [HK.out], X9.out.1, by rw [HK.out]; exact X9.out.2.1, X9.out.2.2.2.2.2.2.1, Nat.le_of_lt X9.out.2.2.2.2.2.1.1, Nat.le_of_lt X9.out.2.2.2.2.2.1.2.1⟩⟩
end Go.Proofs.Ytjmgdhnjldimgaa
