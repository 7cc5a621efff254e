/- The statements' call 'do', kind by kind. -/
import Derived.Test.YtjmgdhnjldimgaaSa
namespace Go.Proofs.Ytjmgdhnjldimgaa
open Go.RowKit
set_option linter.unusedVariables false
set_option linter.unusedSimpArgs false
set_option maxRecDepth 100000
/-- a call as it comes in -/
structure OpD where
  z : Int
  n : Int
  a : Option Addr
  c : Nat
  D : List Nat
  dd : Nat
def OpD.cells (o : OpD) : Array Value := #[.int .i64 o.z, .int .i64 o.n, .slice o.a o.D.length o.c]
def OpD.In (o : OpD) (w : World) : Prop := RL w (.slice o.a o.D.length o.c) o.dd o.D ∧ ∀ x ∈ o.D, x ≤ 255
theorem OpD.In.step {o : OpD} {w w' : World} (h : o.In w) (hb : Below w.heap.size w w') : o.In w' := ⟨h.1.step hb, h.2⟩
def doK (K : Fi) (o : OpD) : Fi := if o.z = 0 then putK K o.D else if o.z = 1 then takeK K o.n else if o.z = 3 then clearK K else K
/-- what waits lies elsewhere -/
def Off (d fb g : Nat) (l : List Nat) : Prop := l = [] ∨ (d ≠ fb ∧ d ≠ g)
theorem RL.two_off {w w' : World} {v : Value} {d fb g : Nat} {l : List Nat} (h : RL w v d l) (ht : Two fb g w w') (ho : Off d fb g l) : RL w' v d l := by
  rcases ho with rfl | ho
  · obtain ⟨x, cap, hv, h1, h2, _⟩ := h
    exact ⟨x, cap, hv, h1, h2, .inl rfl⟩
  · exact h.two ht ho.1 ho.2
/-- the state of 'do': the document's row, the call and the result in boxes, the row -/
def Dz (w W : World) (fb g d : Nat) (K : Fi) (v : Value) (O R : Array Value) : Prop := Box 28 W w.heap.size (fifoC K v) ∧ Box 45 W (w.heap.size + 1) O ∧ Box 28 W (w.heap.size + 2) R ∧ FifoAt W fb g K ∧ RL W v d K.l ∧ Below w.heap.size w W
section
variable {w W W' w5 W9 : World} {fb g g' d d2 : Nat} {K K2 : Fi} {v v2 : Value} {O R c : Array Value}
theorem Dz.step (h : Dz w W fb g d K v O R) (hb : Below W.heap.size W W') : Dz w W' fb g d K v O R := by
  obtain ⟨h1, h2, h3, h4, h5, h6⟩ := h
  exact ⟨h1.step hb, h2.step hb, h3.step hb, h4.step hb, h5.step hb, h6.trans (hb.mono h6.size)⟩
theorem Dz.lt (h : Dz w W fb g d K v O R) : w.heap.size + 2 < W.heap.size := h.2.2.1.lt
theorem Dz.begin (w : World) (fb g d : Nat) (K : Fi) (v : Value) (O : Array Value) (hf : FifoAt w fb g K) (hr : RL w v d K.l) : Dz w (((w.alloc (.cells (fifoC K v) 28)).alloc (.cells O 45)).alloc (.cells zeroC 28)) fb g d K v O zeroC := by
  have b1 : Below w.heap.size w (w.alloc (.cells (fifoC K v) 28)) := (Below.refl _ _).alloc (Nat.le_refl _) _
  have b2 := b1.alloc b1.size (.cells O 45)
  have b3 := b2.alloc b2.size (.cells zeroC 28)
  have s1 : (w.alloc (.cells (fifoC K v) 28)).heap.size = w.heap.size + 1 := by simp
  have s2 : ((w.alloc (.cells (fifoC K v) 28)).alloc (.cells O 45)).heap.size = w.heap.size + 2 := by simp
  refine ⟨((Box.new 28 w _).alloc _).alloc _, ?_, ?_, hf.step b3, hr.step b3, b3⟩
  · have := (Box.new 45 (w.alloc (.cells (fifoC K v) 28)) O).alloc (.cells zeroC 28)
    rwa [s1] at this
  · have := Box.new 28 ((w.alloc (.cells (fifoC K v) 28)).alloc (.cells O 45)) zeroC
    rwa [s2] at this
theorem do_end (hf : FifoAt w5 fb g' K2) (hr : RL w5 v2 d2 K2.l) (ht : Two fb g w w5) (h1 : fb < w.heap.size) (h2 : g < w.heap.size) (h3 : g' = g ∨ w.heap.size + 2 < g') (h4 : K2.l = [] ∨ d2 ≠ w.heap.size + 2) (hu : Upon (w.heap.size + 2) w5 W9) : FifoAt W9 fb g' K2 ∧ RL W9 v2 d2 K2.l ∧ Two fb g w W9 := by
  have hs := ht.size
  exact ⟨hf.upon hu (by omega) (by omega), hr.off hu h4, ⟨ht.1.trans hu.1, fun k hk ha hb => (hu.2 k (by omega) (by omega)).trans (ht.2 k hk ha hb)⟩⟩
end
theorem wpList_extract_at {w : World} {ops : Array Oper} {rest : List Oper} {o : Oper} {a : Act} {Q : Exit → Act → World → Prop} (hg : o.guard = none) (x : Operand) (i : Nat) (vs : Array Value) (v : Value) (hop : o.op = Op.extract x i) (hx : a.eval x = .tuple vs) (hv : vs[i]? = some v) (h : wpList Try.prog ops Q rest (a.put o.dst v) w) : wpList Try.prog ops Q (o :: rest) a w := by
  refine wpList_plain hg fun KK hKK => ?_
  unfold Oper.wp
  simp only [execOp, hop, hx]
  simp [hv, Instr.extract, go_sem]
  exact hKK _ _ h
/-- what a call leaves on both sides -/
def DoP (w w' : World) (fb g d : Nat) (K2 : Fi) (e : Ending) : Prop := ∃ v2 c2 d2 g2, e = .returned (.tuple #[.agg (fifoC K2 (.slice v2 K2.l.length c2)), .bool true]) ∧ FifoAt w' fb g2 K2 ∧ RL w' (.slice v2 K2.l.length c2) d2 K2.l ∧ Two fb g w w' ∧ (g2 = g ∨ w.heap.size ≤ g2) ∧ (d2 = d ∨ w.heap.size ≤ d2) ∧ Off d2 fb g2 K2.l
theorem Dz.made {w W W' : World} {fb g d : Nat} {K : Fi} {v : Value} {O R c : Array Value} (h : Dz w W fb g d K v O R) (hu : Upon W.heap.size (W.alloc (.cells zeroC 28)) W') : Dz w W' fb g d K v O R ∧ Below W.heap.size W W' := by
  have b1 : Below W.heap.size W (W.alloc (.cells zeroC 28)) := (Below.refl _ _).alloc (Nat.le_refl _) _
  have b2 := b1.trans (hu.below (Nat.le_refl _) b1.size)
  exact ⟨h.step b2, b2⟩
set_option maxHeartbeats 2000000 in
theorem do_other {w : World} {K : Fi} {fb g d : Nat} {va : Option Addr} {vc : Nat} (hf : FifoAt w fb g K) (hr : RL w (.slice va K.l.length vc) d K.l) (ho : Off d fb g K.l) (z n : Int) (a : Option Addr) (l c : Nat) (hz : z ≠ 0 ∧ z ≠ 1 ∧ z ≠ 2 ∧ z ≠ 3) : Calls Try.prog 20 #[.pointer (some ⟨fb, 0, none⟩), .agg (fifoC K (.slice va K.l.length vc)), .agg #[.int .i64 z, .int .i64 n, .slice a l c]] w fun e w' => DoP w w' fb g d K e := by
  have e0 : (z == 0) = false := by simp [hz.1]
  have e1 : (z == 1) = false := by simp [hz.2.1]
  have e2 : (z == 2) = false := by simp [hz.2.2.1]
  have e3 : (z == 3) = false := by simp [hz.2.2.2]
  clear hz
  obtain ⟨k, hk⟩ : ∃ k, K.l.length = k := ⟨_, rfl⟩
  have dlt : K.l = [] ∨ d < w.heap.size := by
    by_cases q : K.l = []
    · exact .inl q
    · exact .inr (hr.old q)
  have hlt := hf.lt
  rw [hk] at hr
  rw [hk]
  have H : Hid (FifoAt w fb g K ∧ RL w (.slice va k vc) d K.l ∧ Off d fb g K.l ∧ (K.l = [] ∨ d < w.heap.size) ∧ K.l.length = k) := ⟨hf, hr, ho, dlt, hk⟩
  clear hf hr ho dlt hk
  go_enter Try.func20, Try.ntmps20
  go_upto_region 0 with fail
  refine wp_region_list ?_
  refine wpList_box_agg 28 (fifoC K (.slice va k vc)) _ rfl rfl rfl ?_
  refine wpList_box_agg 45 #[.int .i64 z, .int .i64 n, .slice a l c] _ rfl rfl rfl ?_
  refine wpList_alloc_zero 28 zeroC 4 zinfo28 rfl rfl ?_
  rw [show ((w.alloc (.cells (fifoC K (.slice va k vc)) 28)).alloc (.cells #[.int .i64 z, .int .i64 n, .slice a l c] 45)).heap.size = w.heap.size + 2 from by simp, show (w.alloc (.cells (fifoC K (.slice va k vc)) 28)).heap.size = w.heap.size + 1 from by simp]
  have X0 : Hid (Dz w (((w.alloc (.cells (fifoC K (.slice va k vc)) 28)).alloc (.cells #[.int .i64 z, .int .i64 n, .slice a l c] 45)).alloc (.cells zeroC 28)) fb g d K (.slice va k vc) #[.int .i64 z, .int .i64 n, .slice a l c] zeroC) := Dz.begin w fb g d K _ _ H.out.1 H.out.2.1
  generalize ((w.alloc (.cells (fifoC K (.slice va k vc)) 28)).alloc (.cells #[.int .i64 z, .int .i64 n, .slice a l c] 45)).alloc (.cells zeroC 28) = W at *
  have c0 := X0.out.2.1.cell 0 (.int .i64 z) rfl
  have c1 := X0.out.2.1.cell 1 (.int .i64 n) rfl
  have c2 := X0.out.2.1.cell 2 (.slice a l c) rfl
  go_upto_region 13 with fail
  refine wp_region_list ?_
  refine wpList_load28 rfl _ rfl w.heap.size K _ _ _ rfl X0.out.1 ?_
  refine wpList_store28 rfl _ _ rfl (w.heap.size + 2) K _ _ _ zeroC rfl rfl X0.out.2.2.1 rfl ?_
  intro W9 B9 U9
  have F : Hid (Box 28 W9 (w.heap.size + 2) (fifoC K (.slice va k vc)) ∧ FifoAt W9 fb g K ∧ RL W9 (.slice va k vc) d K.l ∧ Two fb g w W9) := ⟨B9, do_end X0.out.2.2.2.1 X0.out.2.2.2.2.1 (Two.of_below X0.out.2.2.2.2.2) hlt.1 hlt.2 (.inl rfl) (H.out.2.2.2.1.imp id (by omega)) U9⟩
  clear B9 U9
  go_wp2_with fail
  refine bodyPost_ret (v := .tuple #[.agg (fifoC K (.slice va k vc)), .bool true]) (results2 (p := 6) (t := 7) rfl _ _ (w.heap.size + 2) K _ _ _ rfl F.out.1) rfl ?_
  unfold DoP
  rw [H.out.2.2.2.2]
  exact ⟨va, vc, d, g, rfl, F.out.2.1, F.out.2.2.1, F.out.2.2.2, .inl rfl, .inl rfl, H.out.2.2.1⟩
set_option maxHeartbeats 2000000 in
theorem do_clear {w : World} {K : Fi} {fb g d : Nat} {va : Option Addr} {vc : Nat} (hf : FifoAt w fb g K) (hr : RL w (.slice va K.l.length vc) d K.l) (ho : Off d fb g K.l) (n : Int) (a : Option Addr) (l c : Nat) : Calls Try.prog 20 #[.pointer (some ⟨fb, 0, none⟩), .agg (fifoC K (.slice va K.l.length vc)), .agg #[.int .i64 3, .int .i64 n, .slice a l c]] w fun e w' => DoP w w' fb g d (clearK K) e := by
  obtain ⟨k, hk⟩ : ∃ k, K.l.length = k := ⟨_, rfl⟩
  have dlt : K.l = [] ∨ d < w.heap.size := by
    by_cases q : K.l = []
    · exact .inl q
    · exact .inr (hr.old q)
  have hlt := hf.lt
  rw [hk] at hr
  rw [hk]
  have H : Hid (FifoAt w fb g K ∧ RL w (.slice va k vc) d K.l ∧ Off d fb g K.l ∧ (K.l = [] ∨ d < w.heap.size) ∧ K.l.length = k) := ⟨hf, hr, ho, dlt, hk⟩
  clear hf hr ho dlt hk
  go_enter Try.func20, Try.ntmps20
  go_upto_region 0 with fail
  refine wp_region_list ?_
  refine wpList_box_agg 28 (fifoC K (.slice va k vc)) _ rfl rfl rfl ?_
  refine wpList_box_agg 45 #[.int .i64 3, .int .i64 n, .slice a l c] _ rfl rfl rfl ?_
  refine wpList_alloc_zero 28 zeroC 4 zinfo28 rfl rfl ?_
  rw [show ((w.alloc (.cells (fifoC K (.slice va k vc)) 28)).alloc (.cells #[.int .i64 3, .int .i64 n, .slice a l c] 45)).heap.size = w.heap.size + 2 from by simp, show (w.alloc (.cells (fifoC K (.slice va k vc)) 28)).heap.size = w.heap.size + 1 from by simp]
  have X0 : Hid (Dz w (((w.alloc (.cells (fifoC K (.slice va k vc)) 28)).alloc (.cells #[.int .i64 3, .int .i64 n, .slice a l c] 45)).alloc (.cells zeroC 28)) fb g d K (.slice va k vc) #[.int .i64 3, .int .i64 n, .slice a l c] zeroC) := Dz.begin w fb g d K _ _ H.out.1 H.out.2.1
  generalize ((w.alloc (.cells (fifoC K (.slice va k vc)) 28)).alloc (.cells #[.int .i64 3, .int .i64 n, .slice a l c] 45)).alloc (.cells zeroC 28) = W at *
  have c0 := X0.out.2.1.cell 0 (.int .i64 3) rfl
  have c1 := X0.out.2.1.cell 1 (.int .i64 n) rfl
  have c2 := X0.out.2.1.cell 2 (.slice a l c) rfl
  go_upto_region 11 with fail
  refine wp_region_list ?_
  (refine wpList_step (fun KK hKK => ?_); go_simp; refine hKK _ _ ?_; clear hKK KK)
  refine wpList_step (fun KK hKK => ?_)
  go_simp
  refine (clear_any X0.out.2.2.2.1).mono ?_
  rintro e w1 ⟨rfl, h1, h2⟩
  have X1 : Hid (Box 28 w1 w.heap.size (fifoC K (.slice va k vc)) ∧ Box 28 w1 (w.heap.size + 2) zeroC ∧ FifoAt w1 fb g (clearK K) ∧ Two fb g w w1) := by
    obtain ⟨x1, x2, x3, x4, x5, x6⟩ := X0.out
    exact ⟨h2.box x1 (by omega), h2.box x3 (by omega), h1, (Two.of_below x6).trans (Two.of_upon h2)⟩
  clear h1 h2 X0 c0 c1 c2
  refine hKK _ _ ?_
  clear hKK KK
  have c0 := X1.out.1.cell 0 (.slice va k vc) rfl
  have f0 := X1.out.1.frozen 0
  go_upto_region 13 with fail
  have X8 : Hid (Box 28 (w1.setCell ⟨w.heap.size, 0, none⟩ (.slice none 0 0)) w.heap.size (fifoC (clearK K) (.slice none 0 0)) ∧ Box 28 (w1.setCell ⟨w.heap.size, 0, none⟩ (.slice none 0 0)) (w.heap.size + 2) zeroC ∧ FifoAt (w1.setCell ⟨w.heap.size, 0, none⟩ (.slice none 0 0)) fb g (clearK K) ∧ Two fb g w (w1.setCell ⟨w.heap.size, 0, none⟩ (.slice none 0 0))) := by
    obtain ⟨x1, x2, x3, x4⟩ := X1.out
    have hu : Upon w.heap.size w1 (w1.setCell ⟨w.heap.size, 0, none⟩ (.slice none 0 0)) := (Upon.refl _ _).set 0 _
    have hs := x4.size
    exact ⟨x1.set 0 _, hu.box x2 (by omega), x3.upon hu (by omega) (by omega), ⟨x4.1.trans hu.1, fun k hk ha hb => (hu.2 k (by omega) (by omega)).trans (x4.2 k hk ha hb)⟩⟩
  clear X1 c0 f0
  generalize w1.setCell ⟨w.heap.size, 0, none⟩ (.slice none 0 0) = w2 at *
  refine wp_region_list ?_
  refine wpList_load28 rfl _ rfl w.heap.size (clearK K) _ _ _ rfl X8.out.1 ?_
  refine wpList_store28 rfl _ _ rfl (w.heap.size + 2) (clearK K) _ _ _ zeroC rfl rfl X8.out.2.1 rfl ?_
  intro W9 B9 U9
  have F : Hid (Box 28 W9 (w.heap.size + 2) (fifoC (clearK K) (.slice none 0 0)) ∧ FifoAt W9 fb g (clearK K) ∧ RL W9 (.slice none 0 0) d (clearK K).l ∧ Two fb g w W9) := ⟨B9, do_end X8.out.2.2.1 (RL.nil _ d) X8.out.2.2.2 hlt.1 hlt.2 (.inl rfl) (.inl rfl) U9⟩
  clear B9 U9
  go_wp2_with fail
  refine bodyPost_ret (v := .tuple #[.agg (fifoC (clearK K) (.slice none 0 0)), .bool true]) (results2 (p := 6) (t := 7) rfl _ _ (w.heap.size + 2) (clearK K) _ _ _ rfl F.out.1) rfl ?_
  exact ⟨none, 0, d, g, rfl, F.out.2.1, F.out.2.2.1, F.out.2.2.2, .inl rfl, .inl rfl, .inl rfl⟩
end Go.Proofs.Ytjmgdhnjldimgaa
