/- The document's disk: laws at operations; ask, piece, New, Flush. -/
import Derived.Test.YtkalaojbmedhjaaPd
namespace Go.Proofs.Ytkalaojbmedhjaa
open Go.RowKit Go.Maps
set_option linter.unusedVariables false
set_option linter.unusedSimpArgs false
set_option maxRecDepth 100000
def zeroC : Array Value := #[.slice none 0 0, .bool false, .int .u64 0, .int .u64 0, .int .u64 0]
theorem zinfo28 : (Try.prog.info? 28).map (fun i => (i.zero, i.size)) = some (some (.agg zeroC), 5) := by kernel_rfl
theorem docC_size (K : Dk) (g N : Nat) : (docC K g N).size = 5 := rfl
theorem docC_one (K : Dk) (g N : Nat) : (docC K g N).all (·.oneCell') = true := by simp [docC, Value.oneCell']
theorem info28 (K : Dk) (g N : Nat) : (Try.prog.info? 28).map (·.size) = some (docC K g N).size := by rw [docC_size]; kernel_rfl
theorem run_alloc_zero (t : TypeId) (c : Array Value) (n : Nat) (h : (Try.prog.info? t).map (fun i => (i.zero, i.size)) = some (some (.agg c), n)) (w : World) : (Instr.alloc t true (.tuple #[])).run Try.prog w = .ok (.pointer (some ⟨w.heap.size, 0, none⟩)) (w.alloc (.cells c t)) := by
  cases hq : Try.prog.info? t with
  | none => simp [hq] at h
  | some i =>
    have hz : i.zero = some (.agg c) := by simp [hq] at h; exact h.1
    simp [Instr.alloc, zeroValue, typeInfo, hq, hz, newVar, newRow, Value.cells]
section
variable {w : World} {ops : Array Oper} {rest : List Oper} {o : Oper} {a : Act} {Q : Exit → Act → World → Prop}
theorem wpList_alloc_zero (t : TypeId) (c : Array Value) (n : Nat) (hi : (Try.prog.info? t).map (fun i => (i.zero, i.size)) = some (some (.agg c), n)) (hg : o.guard = none) (hop : o.op = Op.alloc t) (h : wpList Try.prog ops Q rest (a.put o.dst (.pointer (some ⟨w.heap.size, 0, none⟩))) (w.alloc (.cells c t))) : wpList Try.prog ops Q (o :: rest) a w := by
  refine wpList_plain hg fun K hK => ?_
  unfold Oper.wp
  simp [execOp, hop, run_alloc_zero t c n hi w, Result.andThen]
  exact hK _ _ h
theorem wpList_box_agg (t : TypeId) (c : Array Value) (x : Operand) (hg : o.guard = none) (hop : o.op = Op.box t x) (hx : a.eval x = .agg c) (h : wpList Try.prog ops Q rest (a.put o.dst (.pointer (some ⟨w.heap.size, 0, none⟩))) (w.alloc (.cells c t))) : wpList Try.prog ops Q (o :: rest) a w := by
  refine wpList_plain hg fun K hK => ?_
  unfold Oper.wp
  simp [execOp, hop, hx, Instr.box, newVar, newRow, Value.cells, Result.andThen]
  exact hK _ _ h
theorem wpList_load28 (hg : o.guard = none) (x : Operand) (ho : o.op = .load 28 x) (b : Nat) (K : Dk) (g N : Nat) (hx : a.eval x = .pointer (some ⟨b, 0, none⟩)) (hb : Box 28 w b (docC K g N))
    (h : wpList Try.prog ops Q rest (a.put o.dst (.agg (docC K g N))) w) : wpList Try.prog ops Q (o :: rest) a w :=
  wpList_load_row hg 28 x ho b hx 28 _ (0, 0) _ hb Try.underlying28 rfl (info28 K g N) h
theorem wpList_load28G (hw : Region.wanted o (yielded ops a.tmps) = true) (x : Operand) (ho : o.op = .load 28 x) (b : Nat) (K : Dk) (g N : Nat) (hx : a.eval x = .pointer (some ⟨b, 0, none⟩)) (hb : Box 28 w b (docC K g N))
    (h : wpList Try.prog ops Q rest (a.put o.dst (.agg (docC K g N))) w) : wpList Try.prog ops Q (o :: rest) a w :=
  wpList_want hw fun KK hKK => wp_load_row 28 x ho b hx 28 _ (0, 0) _ hb Try.underlying28 rfl (info28 K g N) (hKK _ _ h)
theorem wpList_store28 (hg : o.guard = none) (x y : Operand) (ho : o.op = .store 28 x y) (b : Nat) (K : Dk) (g N : Nat) (old : Array Value) (hx : a.eval x = .pointer (some ⟨b, 0, none⟩)) (hy : a.eval y = .agg (docC K g N)) (hb : Box 28 w b old) (hs : old.size = 5)
    (h : ∀ W, Box 28 W b (docC K g N) → Upon b w W → wpList Try.prog ops Q rest (a.put o.dst undef) W) : wpList Try.prog ops Q (o :: rest) a w :=
  wpList_store_row hg 28 x y ho b (docC K g N) hx hy 28 old hb (info28 K g N) (by rw [docC_size]; exact hs) (docC_one K g N) (h _ (setRow_heap w b old _ 28 (0, 0) hb) (upon_row (Upon.refl _ _) _))
end
section
variable {w : World} {o : Oper} {a : Act} {KK : Act → World → Prop} {Q : Exit → Act → World → Prop}
theorem wp_alloc_zero (t : TypeId) (c : Array Value) (n : Nat) (hi : (Try.prog.info? t).map (fun i => (i.zero, i.size)) = some (some (.agg c), n)) (hop : o.op = Op.alloc t) (h : KK (a.put o.dst (.pointer (some ⟨w.heap.size, 0, none⟩))) (w.alloc (.cells c t))) : o.wp Try.prog a w KK Q := by
  unfold Oper.wp
  simp [execOp, hop, run_alloc_zero t c n hi w, Result.andThen]
  exact h
theorem wp_store28 (x y : Operand) (ho : o.op = .store 28 x y) (b : Nat) (K : Dk) (g N : Nat) (old : Array Value) (hx : a.eval x = .pointer (some ⟨b, 0, none⟩)) (hy : a.eval y = .agg (docC K g N)) (hb : Box 28 w b old) (hs : old.size = 5)
    (h : ∀ W, Box 28 W b (docC K g N) → Upon b w W → KK (a.put o.dst undef) W) : o.wp Try.prog a w KK Q :=
  wp_store_row 28 x y ho b (docC K g N) hx hy 28 old hb (info28 K g N) (by rw [docC_size]; exact hs) (docC_one K g N) (h _ (setRow_heap w b old _ 28 (0, 0) hb) (upon_row (Upon.refl _ _) _))
theorem wp_load28 (x : Operand) (ho : o.op = .load 28 x) (b : Nat) (K : Dk) (g N : Nat) (hx : a.eval x = .pointer (some ⟨b, 0, none⟩)) (hb : Box 28 w b (docC K g N)) (h : KK (a.put o.dst (.agg (docC K g N))) w) : o.wp Try.prog a w KK Q :=
  wp_load_row 28 x ho b hx 28 _ (0, 0) _ hb Try.underlying28 rfl (info28 K g N) h
end
theorem load28 {w : World} {b : Nat} {K : Dk} {g N : Nat} (h : Box 28 w b (docC K g N)) : (loadVar 28 ⟨b, 0, none⟩).run Try.prog w = .ok (.agg (docC K g N)) w := run_loadVar_row w b 28 28 _ (0, 0) _ h Try.underlying28 rfl (info28 K g N)
theorem yield28 {w : World} {o : Oper} {a : Act} {b : Nat} {K : Dk} {g N : Nat} (hw : Box 28 w b (docC K g N)) (x : Operand) (hop : o.op = Op.load 28 x) (hx : a.eval x = .pointer (some ⟨b, 0, none⟩)) : (execOp a.eval o).run Try.prog w = .ok (.value (.agg (docC K g N))) w := by
  simp only [execOp, hop, hx, Instr.loadAt, Instr.sureAddr, Sem.run_bind, Sem.run_pure, Result.andThen_ok, load28 hw]
theorem results1 {fn : Func} {p : Tmp} (h : fn.results = #[.cell p 28]) (tmps : Array Value) (w : World) (b : Nat) (K : Dk) (g N : Nat) (hp : tmps.getD p undef = .pointer (some ⟨b, 0, none⟩)) (h1 : Box 28 w b (docC K g N)) : (results fn tmps).run Try.prog w = .ok (.agg (docC K g N)) w := by
  have hp' : tmps[p]?.getD undef = .pointer (some ⟨b, 0, none⟩) := by simpa using hp
  simp [results, h, hp', asAddr, load28 h1]
theorem results2 {fn : Func} {p t : Tmp} (h : fn.results = #[.cell p 28, .tmp t]) (tmps : Array Value) (w : World) (b : Nat) (K : Dk) (g N : Nat) (hp : tmps.getD p undef = .pointer (some ⟨b, 0, none⟩)) (h1 : Box 28 w b (docC K g N)) : (results fn tmps).run Try.prog w = .ok (.tuple #[.agg (docC K g N), tmps.getD t undef]) w := by
  have hp' : tmps[p]?.getD undef = .pointer (some ⟨b, 0, none⟩) := by simpa using hp
  simp [results, h, hp', asAddr, load28 h1]
theorem results3 {fn : Func} {p t u : Tmp} (h : fn.results = #[.cell p 28, .tmp t, .tmp u]) (tmps : Array Value) (w : World) (b : Nat) (K : Dk) (g N : Nat) (hp : tmps.getD p undef = .pointer (some ⟨b, 0, none⟩)) (h1 : Box 28 w b (docC K g N)) : (results fn tmps).run Try.prog w = .ok (.tuple #[.agg (docC K g N), tmps.getD t undef, tmps.getD u undef]) w := by
  have hp' : tmps[p]?.getD undef = .pointer (some ⟨b, 0, none⟩) := by simpa using hp
  simp [results, h, hp', asAddr, load28 h1]
theorem results3b {fn : Func} {p t u : Tmp} (h : fn.results = #[.tmp t, .cell p 28, .tmp u]) (tmps : Array Value) (w : World) (b : Nat) (K : Dk) (g N : Nat) (hp : tmps.getD p undef = .pointer (some ⟨b, 0, none⟩)) (h1 : Box 28 w b (docC K g N)) : (results fn tmps).run Try.prog w = .ok (.tuple #[tmps.getD t undef, .agg (docC K g N), tmps.getD u undef]) w := by
  have hp' : tmps[p]?.getD undef = .pointer (some ⟨b, 0, none⟩) := by simpa using hp
  simp [results, h, hp', asAddr, load28 h1]
/-- two boxes of the document's calls: what came in, what is told -/
def Tw (w W : World) (c d : Array Value) : Prop := Box 28 W w.heap.size c ∧ Box 28 W (w.heap.size + 1) d ∧ Below w.heap.size w W
section
variable {w W W' : World} {c d c2 : Array Value}
theorem Tw.step (h : Tw w W c d) (hb : Below W.heap.size W W') : Tw w W' c d := ⟨h.1.step hb, h.2.1.step hb, h.2.2.trans (hb.mono h.2.2.size)⟩
theorem Tw.set (h : Tw w W c d) (i : Nat) (v : Value) : Tw w (W.setCell ⟨w.heap.size, i, none⟩ v) (c.setIfInBounds i v) d := ⟨h.1.set i v, h.2.1.other i v (by omega), h.2.2.setCell (Nat.le_refl _) v⟩
theorem Tw.own (h : Tw w W c d) (hx : Box 28 W' w.heap.size c2) (hu : Upon w.heap.size W W') : Tw w W' c2 d := ⟨hx, hu.box h.2.1 (by omega), h.2.2.trans (hu.below (Nat.le_refl _) h.2.2.size)⟩
theorem Tw.res (h : Tw w W c d) (hx : Box 28 W' (w.heap.size + 1) c2) (hu : Upon (w.heap.size + 1) W W') : Tw w W' c c2 := ⟨hu.box h.1 (by omega), hx, h.2.2.trans (hu.below (by omega) h.2.2.size)⟩
theorem Tw.lt (h : Tw w W c d) : w.heap.size + 1 < W.heap.size := h.2.1.lt
end
theorem wpList_enter2 {w : World} {ops : Array Oper} {rest : List Oper} {o1 o2 : Oper} {a : Act} {Q : Exit → Act → World → Prop} (K : Dk) (g N : Nat) (x : Operand) (hg1 : o1.guard = none) (hop1 : o1.op = Op.box 28 x) (hx : a.eval x = .agg (docC K g N)) (hg2 : o2.guard = none) (hop2 : o2.op = Op.alloc 28)
    (h : ∀ W, Tw w W (docC K g N) zeroC → wpList Try.prog ops Q rest ((a.put o1.dst (.pointer (some ⟨w.heap.size, 0, none⟩))).put o2.dst (.pointer (some ⟨w.heap.size + 1, 0, none⟩))) W) : wpList Try.prog ops Q (o1 :: o2 :: rest) a w := by
  refine wpList_box_agg 28 (docC K g N) x hg1 hop1 hx ?_
  refine wpList_alloc_zero 28 zeroC 5 zinfo28 hg2 hop2 ?_
  rw [show (w.alloc (.cells (docC K g N) 28)).heap.size = w.heap.size + 1 from by simp]
  have b1 : Below w.heap.size w (w.alloc (.cells (docC K g N) 28)) := (Below.refl _ _).alloc (Nat.le_refl _) _
  refine h _ ⟨(Box.new 28 w _).alloc _, ?_, b1.alloc b1.size _⟩
  have := Box.new 28 (w.alloc (.cells (docC K g N) 28)) zeroC
  rwa [show (w.alloc (.cells (docC K g N) 28)).heap.size = w.heap.size + 1 from by simp] at this
set_option maxHeartbeats 1000000 in
theorem dask_any (K : Dk) (g N : Nat) (hK : K.Ok) (w : World) : Calls Try.prog 43 #[.agg (docC K g N)] w fun e w' => e = .returned (.tuple #[.agg (docC (askK K) g N), .int .i64 (askE K : Nat)]) ∧ Below w.heap.size w w' := by
  have hi := inc_num K.reqs
  have h5 := hK.fai
  clear hK
  go_enter Try.func43, Try.ntmps43
  go_upto_region 0 with fail
  refine wp_region_list ?_
  refine wpList_enter2 K g N _ rfl rfl rfl rfl rfl ?_
  intro W hT
  have T0 : Hid (Tw w W (docC K g N) zeroC) := hT
  clear hT
  have c3 := T0.out.1.cell 3 (.int .u64 (K.reqs : Nat)) rfl
  have f3 := T0.out.1.frozen 3
  go_upto_region 2 with fail
  have T1 : Hid (Tw w (W.setCell ⟨w.heap.size, 3, none⟩ (.int .u64 (inc K.reqs : Nat))) (docC { K with reqs := inc K.reqs } g N) zeroC) := T0.out.set 3 _
  clear T0 c3 f3
  generalize W.setCell ⟨w.heap.size, 3, none⟩ (.int .u64 (inc K.reqs : Nat)) = W1 at *
  have c2 := T1.out.1.cell 2 (.int .u64 (K.fail : Nat)) rfl
  have f2 := T1.out.1.frozen 2
  rcases Nat.lt_or_ge K.fail 1 with h0 | h0
  · have e0 : K.fail = 0 := by omega
    have eK : { K with reqs := inc K.reqs } = askK K := by unfold askK; rw [e0]
    have eE : askE K = 0 := by unfold askE; rw [if_neg (by omega)]
    have T2 : Hid (Tw w W1 (docC (askK K) g N) zeroC) := by rw [← eK]; exact T1.out
    clear T1
    have T1 := T2
    clear T2
    rw [e0] at c2
    have HE : Hid (askE K = 0) := eE
    clear h0 e0 h5 eK eE
    go_upto_region 6 with fail
    refine wp_region_list ?_
    refine wpList_load28 rfl _ rfl w.heap.size (askK K) g N rfl T1.out.1 ?_
    refine wpList_store28 rfl _ _ rfl (w.heap.size + 1) (askK K) g N zeroC rfl rfl T1.out.2.1 rfl ?_
    intro W9 B9 U9
    have T9 : Hid (Tw w W9 (docC (askK K) g N) (docC (askK K) g N)) := T1.out.res B9 U9
    clear B9 U9
    go_wp2_with fail
    exact bodyPost_ret (v := .tuple #[.agg (docC (askK K) g N), .int .i64 0]) (results2 (p := 2) (t := 3) rfl _ _ (w.heap.size + 1) (askK K) g N rfl T9.out.2.1) rfl ⟨by rw [HE.out]; rfl, T9.out.2.2⟩
  · have hd := show IntKind.u64.wrap ((K.fail : Int) - 1) = ((K.fail - 1 : Nat) : Int) from by rw [wrap_u64]; omega
    have n0 : decide ((0 : Int) < (K.fail : Int)) = true := by simp; omega
    have n2 : decide (0 < K.fail) = true := by simp; omega
    obtain ⟨q, hq⟩ : ∃ q, K.fail - 1 = q := ⟨_, rfl⟩
    rw [hq] at hd
    have hK2 : ({ K with reqs := inc K.reqs, fail := q } : Dk) = askK K := by unfold askK; rw [hq]
    have HK2 : Hid _ := hK2
    clear hK2
    rcases Nat.lt_or_ge K.fail 2 with h1 | h1
    · have eE : askE K = 133 := by unfold askE; rw [if_pos (by omega)]
      have n1 : ((q : Int) == 0) = true := by simp; omega
      have T2 : Hid (Tw w (W1.setCell ⟨w.heap.size, 2, none⟩ (.int .u64 (q : Nat))) (docC (askK K) g N) zeroC) := by rw [← HK2.out]; exact T1.out.set 2 _
      have cc : (W1.setCell ⟨w.heap.size, 2, none⟩ (.int .u64 (q : Nat))).cell? ⟨w.heap.size, 2, none⟩ = some (.int .u64 (q : Nat)) := (T1.out.1.set 2 (.int .u64 (q : Nat))).cell 2 _ rfl
      have HE : Hid _ := eE
      clear h0 h1 h5 eE hq
      go_upto_region 4 with fail
      clear T1 c2 f2 HK2 hd
      generalize W1.setCell ⟨w.heap.size, 2, none⟩ (.int .u64 (q : Nat)) = W2 at *
      have T1 := T2
      clear T2
      go_upto_region 5 with fail
      refine wp_region_list ?_
      refine wpList_load28 rfl _ rfl w.heap.size (askK K) g N rfl T1.out.1 ?_
      refine wpList_store28 rfl _ _ rfl (w.heap.size + 1) (askK K) g N zeroC rfl rfl T1.out.2.1 rfl ?_
      intro W9 B9 U9
      have T9 : Hid (Tw w W9 (docC (askK K) g N) (docC (askK K) g N)) := T1.out.res B9 U9
      clear B9 U9
      go_wp2_with fail
      exact bodyPost_ret (v := .tuple #[.agg (docC (askK K) g N), .int .i64 133]) (results2 (p := 2) (t := 3) rfl _ _ (w.heap.size + 1) (askK K) g N rfl T9.out.2.1) rfl ⟨by rw [HE.out]; rfl, T9.out.2.2⟩
    · have eE : askE K = 0 := by unfold askE; rw [if_neg (by omega)]
      have n1 : ((q : Int) == 0) = false := by simp; omega
      have T2 : Hid (Tw w (W1.setCell ⟨w.heap.size, 2, none⟩ (.int .u64 (q : Nat))) (docC (askK K) g N) zeroC) := by rw [← HK2.out]; exact T1.out.set 2 _
      have cc : (W1.setCell ⟨w.heap.size, 2, none⟩ (.int .u64 (q : Nat))).cell? ⟨w.heap.size, 2, none⟩ = some (.int .u64 (q : Nat)) := (T1.out.1.set 2 (.int .u64 (q : Nat))).cell 2 _ rfl
      have HE : Hid _ := eE
      clear h0 h1 h5 eE hq
      go_upto_region 4 with fail
      clear T1 c2 f2 HK2 hd
      generalize W1.setCell ⟨w.heap.size, 2, none⟩ (.int .u64 (q : Nat)) = W2 at *
      have T1 := T2
      clear T2
      go_upto_region 6 with fail
      refine wp_region_list ?_
      refine wpList_load28 rfl _ rfl w.heap.size (askK K) g N rfl T1.out.1 ?_
      refine wpList_store28 rfl _ _ rfl (w.heap.size + 1) (askK K) g N zeroC rfl rfl T1.out.2.1 rfl ?_
      intro W9 B9 U9
      have T9 : Hid (Tw w W9 (docC (askK K) g N) (docC (askK K) g N)) := T1.out.res B9 U9
      clear B9 U9
      go_wp2_with fail
      exact bodyPost_ret (v := .tuple #[.agg (docC (askK K) g N), .int .i64 0]) (results2 (p := 2) (t := 3) rfl _ _ (w.heap.size + 1) (askK K) g N rfl T9.out.2.1) rfl ⟨by rw [HE.out]; rfl, T9.out.2.2⟩

theorem dpiece_any (K : Dk) (g N x n : Nat) (hN : N = K.count * 512) (hc : K.count ≤ 65536) (hx : x < 18446744073709551616) (hn : n < 18446744073709551616) (w : World) : Calls Try.prog 44 #[.agg (docC K g N), .int .u64 (x : Nat), .int .u64 (n : Nat)] w fun e w' => e = .returned (.int .i64 (pieceE K.count x n : Nat)) ∧ Below w.heap.size w w' := by
  obtain ⟨c, hcc⟩ : ∃ c, K.count = c := ⟨_, rfl⟩
  have hN5 : (N : Int) / 512 = (c : Int) := by omega
  have hN6 : N ≤ 33554432 := by omega
  rw [hcc]
  have b1 : Below w.heap.size w (w.alloc (.cells (docC K g N) 28)) := (Below.refl _ _).alloc (Nat.le_refl _) _
  have bx : Box 28 (w.alloc (.cells (docC K g N) 28)) w.heap.size (docC K g N) := Box.new 28 w _
  have hr : (n : Int) % 512 = ((n % 512 : Nat) : Int) := by omega
  have hq : (n : Int) / 512 = ((n / 512 : Nat) : Int) := by omega
  have HC : Hid (n < 18446744073709551616 ∧ c ≤ 65536) := ⟨hn, by omega⟩
  have hc6 : c ≤ 65536 := by omega
  clear hN hcc hc
  have X : Hid (Below w.heap.size w (w.alloc (.cells (docC K g N) 28))) := b1
  clear b1
  by_cases h1 : n % 512 = 0
  · have H1 : (((n % 512 : Nat) : Int) == 0) = true := by simp; omega
    by_cases h2 : x ≤ c
    · have h2' : decide (c < x) = false := by simp; omega
      have h2'' : ¬ (c : Int) < (x : Int) := by omega
      by_cases h3 : n / 512 ≤ c - x
      · have HE : Hid (pieceE c x n = 0) := by show _ = _; unfold pieceE; rw [if_neg (by omega), if_pos ⟨h2, h3⟩]
        have h3' : ¬ ((c : Int) - (x : Int) < ((n / 512 : Nat) : Int)) := by omega
        generalize n / 512 = q at *
        generalize n % 512 = r at *
        clear h1
        go_enter Try.func44, Try.ntmps44
        go_upto_region 0 with fail
        refine wp_region_list ?_
        refine wpList_box_agg 28 (docC K g N) _ rfl rfl rfl ?_
        have c0 := bx.cell 0 (.slice (some ⟨g, 0, none⟩) N N) rfl
        generalize w.alloc (.cells (docC K g N) 28) = W at *
        go_wp2
        go_ret
        exact ⟨by rw [HE.out]; rfl, X.out⟩
      · have HE : Hid (pieceE c x n = 131) := by show _ = _; unfold pieceE; rw [if_neg (by omega), if_neg (by omega)]
        have h3' : (c : Int) - (x : Int) < ((n / 512 : Nat) : Int) := by omega
        generalize n / 512 = q at *
        generalize n % 512 = r at *
        clear h1
        go_enter Try.func44, Try.ntmps44
        go_upto_region 0 with fail
        refine wp_region_list ?_
        refine wpList_box_agg 28 (docC K g N) _ rfl rfl rfl ?_
        have c0 := bx.cell 0 (.slice (some ⟨g, 0, none⟩) N N) rfl
        generalize w.alloc (.cells (docC K g N) 28) = W at *
        go_wp2
        go_ret
        exact ⟨by rw [HE.out]; rfl, X.out⟩
    · have h2' : decide (c < x) = true := by simp; omega
      have h2'' : (c : Int) < (x : Int) := by omega
      have HE : Hid (pieceE c x n = 131) := by show _ = _; unfold pieceE; rw [if_neg (by omega), if_neg (by omega)]
      generalize n / 512 = q at *
      generalize n % 512 = r at *
      clear h1
      go_enter Try.func44, Try.ntmps44
      go_upto_region 0 with fail
      refine wp_region_list ?_
      refine wpList_box_agg 28 (docC K g N) _ rfl rfl rfl ?_
      have c0 := bx.cell 0 (.slice (some ⟨g, 0, none⟩) N N) rfl
      generalize w.alloc (.cells (docC K g N) 28) = W at *
      go_wp2
      go_ret
      exact ⟨by rw [HE.out]; rfl, X.out⟩
  · have H1 : (((n % 512 : Nat) : Int) == 0) = false := by simp; omega
    have HE : Hid (pieceE c x n = 20) := by show _ = _; unfold pieceE; rw [if_pos h1]
    generalize n / 512 = q at *
    generalize n % 512 = r at *
    clear h1
    go_enter Try.func44, Try.ntmps44
    go_upto_region 0 with fail
    refine wp_region_list ?_
    refine wpList_box_agg 28 (docC K g N) _ rfl rfl rfl ?_
    have c0 := bx.cell 0 (.slice (some ⟨g, 0, none⟩) N N) rfl
    generalize w.alloc (.cells (docC K g N) 28) = W at *
    go_wp2
    go_ret
    exact ⟨by rw [HE.out]; rfl, X.out⟩
end Go.Proofs.Ytkalaojbmedhjaa
