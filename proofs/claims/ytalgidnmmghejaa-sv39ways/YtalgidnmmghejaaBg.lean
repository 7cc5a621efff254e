/- The statements' own call Begun of layer 8: both files behind any writes. -/
import Derived.Test.YtalgidnmmghejaaAw
namespace Go.Proofs.Ytalgidnmmghejaa.E
open Go.RowKit
set_option linter.unusedVariables false
set_option linter.unusedSimpArgs false
set_option maxRecDepth 100000
/-- writes of registers, as they come in -/
def WritesIn (W : World) (v : Value) (len : Nat) (ws : Nat → Int × Nat) : Prop :=
  (len = 0 ∧ ∃ a cap, v = .slice a 0 cap) ∨ ∃ b off cap, v = .slice (some ⟨b, off, none⟩) len cap ∧ b < W.heap.size ∧ ∀ i, i < len → W.cell? ⟨b, off + i * 2, none⟩ = some (.int .i64 (ws i).1) ∧ W.cell? ⟨b, off + i * 2 + 1, none⟩ = some (.int .u64 ((ws i).2 : Int)) ∧ (ws i).2 < 18446744073709551616
theorem WritesIn.below {W w : World} {v : Value} {len : Nat} {ws : Nat → Int × Nat} (h : WritesIn W v len ws) (hb : Below W.heap.size W w) : WritesIn w v len ws := by
  rcases h with h | ⟨b, off, cap, hv, hl, hc⟩
  · exact .inl h
  · refine .inr ⟨b, off, cap, hv, Nat.lt_of_lt_of_le hl hb.size, fun i hi => ?_⟩
    obtain ⟨h1, h2, h3⟩ := hc i hi
    exact ⟨(hb.cell (p := ⟨b, off + i * 2, none⟩) hl).trans h1, (hb.cell (p := ⟨b, off + i * 2 + 1, none⟩) hl).trans h2, h3⟩
section
variable {w : World} {ops : Array Oper} {rest : List Oper} {o : Oper} {a : Act} {Q : Exit → Act → World → Prop}
theorem infoz52 : (Try.prog.info? 52).map (fun i => (i.zero, i.size)) = some (some (.agg zeroD), 23) := by kernel_rfl
theorem run_alloc52 (w : World) : (Instr.alloc 52 true (.tuple #[])).run Try.prog w = .ok (.pointer (some ⟨w.heap.size, 0, none⟩)) (w.alloc (.cells zeroD 52)) := by
  have h := infoz52
  cases hq : Try.prog.info? 52 with
  | none => simp [hq] at h
  | some i =>
    have hz : i.zero = some (.agg zeroD) := by simp [hq] at h; exact h.1
    simp [Instr.alloc, zeroValue, typeInfo, hq, hz, newVar, newRow, Value.cells]
theorem wpList_alloc_doc (hg : o.guard = none) (hop : o.op = Op.alloc 52) (h : ∀ W, W = w.alloc (.cells zeroD 52) → wpList Try.prog ops Q rest (a.put o.dst (.pointer (some ⟨w.heap.size, 0, none⟩))) W) : wpList Try.prog ops Q (o :: rest) a w := by
  refine wpList_plain hg fun K hK => ?_
  unfold Oper.wp
  simp [execOp, hop, run_alloc52 w, Result.andThen]
  exact hK _ _ (h _ rfl)
end
section
variable {w : World} {o : Oper} {a : Act} {KK : Act → World → Prop} {Q : Exit → Act → World → Prop}
theorem wp_store_file (x y : Operand) (ho : o.op = .store 49 x y) (b : Nat) (m : Int) (K : Nat → Nat) (old : Array Value) (hx : a.eval x = .pointer (some ⟨b, 0, none⟩)) (hy : a.eval y = .agg (fileC m K)) (hb : Box 49 w b old) (hs : old.size = 23)
    (h : ∀ W, Box 49 W b (fileC m K) → Upon b w W → KK (a.put o.dst undef) W) : o.wp Try.prog a w KK Q :=
  wp_store_row 49 x y ho b (fileC m K) hx hy 49 old hb info49 hs (fileC_one m K) (h _ (setRow_heap w b old _ 49 (0, 0) hb) (upon_row (Upon.refl _ _) _))
theorem wp_store_doc (x y : Operand) (ho : o.op = .store 52 x y) (b : Nat) (m : Int) (K : Nat → Nat) (old : Array Value) (hx : a.eval x = .pointer (some ⟨b, 0, none⟩)) (hy : a.eval y = .agg (docC m K)) (hb : Box 52 w b old) (hs : old.size = 23)
    (h : ∀ W, Box 52 W b (docC m K) → Upon b w W → KK (a.put o.dst undef) W) : o.wp Try.prog a w KK Q :=
  wp_store_row 52 x y ho b (docC m K) hx hy 52 old hb info52 hs (docC_one m K) (h _ (setRow_heap w b old _ 52 (0, 0) hb) (upon_row (Upon.refl _ _) _))
end
theorem wp_load_doc {w : World} {o : Oper} {a : Act} {KK : Act → World → Prop} {Q : Exit → Act → World → Prop} (x : Operand) (ho : o.op = .load 52 x) (b : Nat) (m : Int) (K : Nat → Nat) (hx : a.eval x = .pointer (some ⟨b, 0, none⟩)) (hb : Box 52 w b (docC m K)) (h : KK (a.put o.dst (.agg (docC m K))) w) : o.wp Try.prog a w KK Q :=
  wp_load_row 52 x ho b hx 52 _ (0, 0) _ hb Try.underlying52 rfl info52 h
theorem yield_file {w : World} {o : Oper} {a : Act} {b : Nat} {m : Int} {K : Nat → Nat} (hw : Box 49 w b (fileC m K)) (x : Operand) (hop : o.op = Op.load 49 x) (hx : a.eval x = .pointer (some ⟨b, 0, none⟩)) : (execOp a.eval o).run Try.prog w = .ok (.value (.agg (fileC m K))) w := by
  simp only [execOp, hop, hx, Instr.loadAt, Instr.sureAddr, Sem.run_bind, Sem.run_pure, Result.andThen_ok, load_file hw]
theorem yield_docB {w : World} {o : Oper} {a : Act} {b : Nat} {m : Int} {K : Nat → Nat} (hw : Box 52 w b (docC m K)) (x : Operand) (hop : o.op = Op.load 52 x) (hx : a.eval x = .pointer (some ⟨b, 0, none⟩)) : (execOp a.eval o).run Try.prog w = .ok (.value (.agg (docC m K))) w := by
  simp only [execOp, hop, hx, Instr.loadAt, Instr.sureAddr, Sem.run_bind, Sem.run_pure, Result.andThen_ok, load_doc hw]
/-- how memory stands within Begun -/
def St (w W : World) (fb db : Nat) (sv : Array Value) (m m' : Int) (K K' : Nat → Nat) : Prop :=
  Box 47 W w.heap.size sv ∧ Box 49 W (w.heap.size + 1) zeroC ∧ Box 52 W (w.heap.size + 2) zeroD ∧ Box 49 W fb (fileC m K) ∧ Box 52 W db (docC m' K') ∧ (w.heap.size + 2 < fb ∧ fb < db) ∧ Below w.heap.size w W
section
variable {w W W' : World} {fb db : Nat} {sv : Array Value} {m m' : Int} {K K' : Nat → Nat}
theorem St.step (h : St w W fb db sv m m' K K') (hb : Below W.heap.size W W') : St w W' fb db sv m m' K K' :=
  ⟨h.1.step hb, h.2.1.step hb, h.2.2.1.step hb, h.2.2.2.1.step hb, h.2.2.2.2.1.step hb, h.2.2.2.2.2.1, h.2.2.2.2.2.2.trans (hb.mono h.2.2.2.2.2.2.size)⟩
theorem St.file (h : St w W fb db sv m m' K K') {m2 : Int} {K2 : Nat → Nat} (hb : Box 49 W' fb (fileC m2 K2)) (hu : Upon fb W W') : St w W' fb db sv m2 m' K2 K' :=
  ⟨hu.box h.1 (by have := h.2.2.2.2.2.1; omega), hu.box h.2.1 (by have := h.2.2.2.2.2.1; omega), hu.box h.2.2.1 (by have := h.2.2.2.2.2.1; omega), hb, hu.box h.2.2.2.2.1 (by have := h.2.2.2.2.2.1; omega), h.2.2.2.2.2.1, h.2.2.2.2.2.2.trans (hu.below (by have := h.2.2.2.2.2.1; omega) h.2.2.2.2.2.2.size)⟩
theorem St.doc (h : St w W fb db sv m m' K K') {m2 : Int} {K2 : Nat → Nat} (hb : Box 52 W' db (docC m2 K2)) (hu : Upon db W W') : St w W' fb db sv m m2 K K2 :=
  ⟨hu.box h.1 (by have := h.2.2.2.2.2.1; omega), hu.box h.2.1 (by have := h.2.2.2.2.2.1; omega), hu.box h.2.2.1 (by have := h.2.2.2.2.2.1; omega), hu.box h.2.2.2.1 (by have := h.2.2.2.2.2.1; omega), hb, h.2.2.2.2.2.1, h.2.2.2.2.2.2.trans (hu.below (by have := h.2.2.2.2.2.1; omega) h.2.2.2.2.2.2.size)⟩
end
theorem three_new (w : World) (c z1 z2 : Array Value) : Box 47 (((w.alloc (.cells c 47)).alloc (.cells z1 49)).alloc (.cells z2 52)) w.heap.size c ∧ Box 49 (((w.alloc (.cells c 47)).alloc (.cells z1 49)).alloc (.cells z2 52)) (w.heap.size + 1) z1 ∧ Box 52 (((w.alloc (.cells c 47)).alloc (.cells z1 49)).alloc (.cells z2 52)) (w.heap.size + 2) z2 ∧ Below w.heap.size w (((w.alloc (.cells c 47)).alloc (.cells z1 49)).alloc (.cells z2 52)) ∧ (((w.alloc (.cells c 47)).alloc (.cells z1 49)).alloc (.cells z2 52)).heap.size = w.heap.size + 3 := by
  refine ⟨((Box.new 47 w c).alloc _).alloc _, ?_, ?_, (((Below.refl _ _).alloc (Nat.le_refl _) _).alloc (by simp) _).alloc (by simp; omega) _, by simp⟩
  · have h := (Box.new 49 (w.alloc (.cells c 47)) z1).alloc (.cells z2 52)
    simpa using h
  · have h := Box.new 52 ((w.alloc (.cells c 47)).alloc (.cells z1 49)) z2
    simpa using h
theorem results3 {fn : Func} {p q t : Tmp} (h : fn.results = #[.cell p 49, .cell q 52, .tmp t]) (tmps : Array Value) (w : World) (b1 b2 : Nat) (m m' : Int) (K K' : Nat → Nat)
    (hp : tmps.getD p undef = .pointer (some ⟨b1, 0, none⟩)) (hq : tmps.getD q undef = .pointer (some ⟨b2, 0, none⟩)) (h1 : Box 49 w b1 (fileC m K)) (h2 : Box 52 w b2 (docC m' K')) :
    (results fn tmps).run Try.prog w = .ok (.tuple #[.agg (fileC m K), .agg (docC m' K'), tmps.getD t undef]) w := by
  have hp' : tmps[p]?.getD undef = .pointer (some ⟨b1, 0, none⟩) := by simpa using hp
  have hq' : tmps[q]?.getD undef = .pointer (some ⟨b2, 0, none⟩) := by simpa using hq
  simp [results, h, hp', hq', asAddr, load_file h1, load_doc h2]
set_option maxHeartbeats 4000000 in
theorem begun_no (mo : Int) (g : Option Addr) (len cap ln : Nat) (h : mo < 0 ∨ 3 < mo ∨ mo = 2 ∨ 40 < (len : Int)) (w : World) : Calls Try.prog 15 #[.agg #[.int .i64 mo, .slice g len cap, .int .u64 (ln : Nat)]] w fun e w' => e = .returned (.tuple #[.agg (fileC 3 fun _ => 0), .agg (docC 3 fun _ => 0), .bool false]) ∧ Below w.heap.size w w' := by
  have T0 : Hid (Box 47 (((w.alloc (.cells #[.int .i64 mo, .slice g len cap, .int .u64 (ln : Nat)] 47)).alloc (.cells #[.int .i64 0, .int .u64 0, .int .u64 0, .int .u64 0, .int .u64 0, .int .u64 0, .int .u64 0, .int .u64 0, .int .u64 0, .int .u64 0, .int .u64 0, .int .u64 0, .int .u64 0, .int .u64 0, .int .u64 0, .int .u64 0, .int .u64 0, .int .u64 0, .int .u64 0, .int .u64 0, .int .u64 0, .int .u64 0, .int .u64 0] 49)).alloc (.cells #[.int .i64 0, .int .u64 0, .int .u64 0, .int .u64 0, .int .u64 0, .int .u64 0, .int .u64 0, .int .u64 0, .int .u64 0, .int .u64 0, .int .u64 0, .int .u64 0, .int .u64 0, .int .u64 0, .int .u64 0, .int .u64 0, .int .u64 0, .int .u64 0, .int .u64 0, .int .u64 0, .int .u64 0, .int .u64 0, .int .u64 0] 52)) w.heap.size #[.int .i64 mo, .slice g len cap, .int .u64 (ln : Nat)] ∧ Box 49 (((w.alloc (.cells #[.int .i64 mo, .slice g len cap, .int .u64 (ln : Nat)] 47)).alloc (.cells #[.int .i64 0, .int .u64 0, .int .u64 0, .int .u64 0, .int .u64 0, .int .u64 0, .int .u64 0, .int .u64 0, .int .u64 0, .int .u64 0, .int .u64 0, .int .u64 0, .int .u64 0, .int .u64 0, .int .u64 0, .int .u64 0, .int .u64 0, .int .u64 0, .int .u64 0, .int .u64 0, .int .u64 0, .int .u64 0, .int .u64 0] 49)).alloc (.cells #[.int .i64 0, .int .u64 0, .int .u64 0, .int .u64 0, .int .u64 0, .int .u64 0, .int .u64 0, .int .u64 0, .int .u64 0, .int .u64 0, .int .u64 0, .int .u64 0, .int .u64 0, .int .u64 0, .int .u64 0, .int .u64 0, .int .u64 0, .int .u64 0, .int .u64 0, .int .u64 0, .int .u64 0, .int .u64 0, .int .u64 0] 52)) (w.heap.size + 1) zeroC ∧ Box 52 (((w.alloc (.cells #[.int .i64 mo, .slice g len cap, .int .u64 (ln : Nat)] 47)).alloc (.cells #[.int .i64 0, .int .u64 0, .int .u64 0, .int .u64 0, .int .u64 0, .int .u64 0, .int .u64 0, .int .u64 0, .int .u64 0, .int .u64 0, .int .u64 0, .int .u64 0, .int .u64 0, .int .u64 0, .int .u64 0, .int .u64 0, .int .u64 0, .int .u64 0, .int .u64 0, .int .u64 0, .int .u64 0, .int .u64 0, .int .u64 0] 49)).alloc (.cells #[.int .i64 0, .int .u64 0, .int .u64 0, .int .u64 0, .int .u64 0, .int .u64 0, .int .u64 0, .int .u64 0, .int .u64 0, .int .u64 0, .int .u64 0, .int .u64 0, .int .u64 0, .int .u64 0, .int .u64 0, .int .u64 0, .int .u64 0, .int .u64 0, .int .u64 0, .int .u64 0, .int .u64 0, .int .u64 0, .int .u64 0] 52)) (w.heap.size + 2) zeroD ∧ Below w.heap.size w (((w.alloc (.cells #[.int .i64 mo, .slice g len cap, .int .u64 (ln : Nat)] 47)).alloc (.cells #[.int .i64 0, .int .u64 0, .int .u64 0, .int .u64 0, .int .u64 0, .int .u64 0, .int .u64 0, .int .u64 0, .int .u64 0, .int .u64 0, .int .u64 0, .int .u64 0, .int .u64 0, .int .u64 0, .int .u64 0, .int .u64 0, .int .u64 0, .int .u64 0, .int .u64 0, .int .u64 0, .int .u64 0, .int .u64 0, .int .u64 0] 49)).alloc (.cells #[.int .i64 0, .int .u64 0, .int .u64 0, .int .u64 0, .int .u64 0, .int .u64 0, .int .u64 0, .int .u64 0, .int .u64 0, .int .u64 0, .int .u64 0, .int .u64 0, .int .u64 0, .int .u64 0, .int .u64 0, .int .u64 0, .int .u64 0, .int .u64 0, .int .u64 0, .int .u64 0, .int .u64 0, .int .u64 0, .int .u64 0] 52)) ∧ (((w.alloc (.cells #[.int .i64 mo, .slice g len cap, .int .u64 (ln : Nat)] 47)).alloc (.cells #[.int .i64 0, .int .u64 0, .int .u64 0, .int .u64 0, .int .u64 0, .int .u64 0, .int .u64 0, .int .u64 0, .int .u64 0, .int .u64 0, .int .u64 0, .int .u64 0, .int .u64 0, .int .u64 0, .int .u64 0, .int .u64 0, .int .u64 0, .int .u64 0, .int .u64 0, .int .u64 0, .int .u64 0, .int .u64 0, .int .u64 0] 49)).alloc (.cells #[.int .i64 0, .int .u64 0, .int .u64 0, .int .u64 0, .int .u64 0, .int .u64 0, .int .u64 0, .int .u64 0, .int .u64 0, .int .u64 0, .int .u64 0, .int .u64 0, .int .u64 0, .int .u64 0, .int .u64 0, .int .u64 0, .int .u64 0, .int .u64 0, .int .u64 0, .int .u64 0, .int .u64 0, .int .u64 0, .int .u64 0] 52)).heap.size = w.heap.size + 3) := three_new w #[.int .i64 mo, .slice g len cap, .int .u64 (ln : Nat)] #[.int .i64 0, .int .u64 0, .int .u64 0, .int .u64 0, .int .u64 0, .int .u64 0, .int .u64 0, .int .u64 0, .int .u64 0, .int .u64 0, .int .u64 0, .int .u64 0, .int .u64 0, .int .u64 0, .int .u64 0, .int .u64 0, .int .u64 0, .int .u64 0, .int .u64 0, .int .u64 0, .int .u64 0, .int .u64 0, .int .u64 0] #[.int .i64 0, .int .u64 0, .int .u64 0, .int .u64 0, .int .u64 0, .int .u64 0, .int .u64 0, .int .u64 0, .int .u64 0, .int .u64 0, .int .u64 0, .int .u64 0, .int .u64 0, .int .u64 0, .int .u64 0, .int .u64 0, .int .u64 0, .int .u64 0, .int .u64 0, .int .u64 0, .int .u64 0, .int .u64 0, .int .u64 0]
  have H : Hid (mo < 0 ∨ 3 < mo ∨ mo = 2 ∨ 40 < (len : Int)) := h
  clear h
  go_enter Try.func15, Try.ntmps15
  go_upto_region 1 with fail
  generalize (((w.alloc (.cells #[.int .i64 mo, .slice g len cap, .int .u64 (ln : Nat)] 47)).alloc (.cells #[.int .i64 0, .int .u64 0, .int .u64 0, .int .u64 0, .int .u64 0, .int .u64 0, .int .u64 0, .int .u64 0, .int .u64 0, .int .u64 0, .int .u64 0, .int .u64 0, .int .u64 0, .int .u64 0, .int .u64 0, .int .u64 0, .int .u64 0, .int .u64 0, .int .u64 0, .int .u64 0, .int .u64 0, .int .u64 0, .int .u64 0] 49)).alloc (.cells #[.int .i64 0, .int .u64 0, .int .u64 0, .int .u64 0, .int .u64 0, .int .u64 0, .int .u64 0, .int .u64 0, .int .u64 0, .int .u64 0, .int .u64 0, .int .u64 0, .int .u64 0, .int .u64 0, .int .u64 0, .int .u64 0, .int .u64 0, .int .u64 0, .int .u64 0, .int .u64 0, .int .u64 0, .int .u64 0, .int .u64 0] 52)) = W at *
  go_wp2_with fail
  refine (begin_any _).mono ?_
  rintro e w1 ⟨rfl, hb1⟩
  rename_i KK hKK
  refine hKK _ _ ?_
  clear hKK
  refine wpList_alloc_file rfl rfl ?_
  intro W0 hW0
  have B0 : Box 49 W0 w1.heap.size zeroC := by rw [hW0]; exact Box.new _ _ _
  have L0 : Below w1.heap.size w1 W0 := by rw [hW0]; exact (Below.refl _ _).alloc (Nat.le_refl _) _
  have Z0 : W0.heap.size = w1.heap.size + 1 := by rw [hW0]; simp
  clear hW0
  refine wpList_store_file rfl _ _ rfl w1.heap.size 3 (fun _ => 0) _ rfl rfl B0 zeroC_size ?_
  intro W1 B1 U1
  have L1 : Below W.heap.size W W1 := hb1.trans ((L0.trans (U1.below (Nat.le_refl _) L0.size)).mono hb1.size)
  have Z1 : w1.heap.size < W1.heap.size := by have := U1.size; omega
  have X1 : Hid (Below W.heap.size W W1 ∧ Box 49 W1 w1.heap.size (fileC 3 fun _ => 0) ∧ W.heap.size ≤ w1.heap.size ∧ w1.heap.size < W1.heap.size) := ⟨L1, B1, hb1.size, Z1⟩
  clear B0 L0 B1 U1 Z0 L1 Z1 hb1
  generalize w1.heap.size = fb at *
  go_upto_region 2 with fail
  refine wp_region_list ?_
  refine wpList_build rfl _ _ rfl (by kernel_rfl) ?_
  refine wpList_alloc_doc rfl rfl ?_
  intro W2 hW2
  have B2 : Box 52 W2 W1.heap.size zeroD := by rw [hW2]; exact Box.new _ _ _
  have L2 : Below W1.heap.size W1 W2 := by rw [hW2]; exact (Below.refl _ _).alloc (Nat.le_refl _) _
  clear hW2
  refine wpList_store_doc rfl _ _ rfl W1.heap.size 3 (fun _ => 0) _ rfl (by kernel_rfl) B2 zeroD_size ?_
  intro W4 B4 U4
  have L4 : Below W1.heap.size W1 W4 := L2.trans (U4.below (Nat.le_refl _) L2.size)
  have Z4 : Hid (St w W4 fb W1.heap.size #[.int .i64 mo, .slice g len cap, .int .u64 (ln : Nat)] 3 3 (fun _ => 0) (fun _ => 0)) := by
    obtain ⟨t1, t2, t3, t4, t5⟩ := T0.out
    obtain ⟨x1, x2, x3, x4⟩ := X1.out
    exact ⟨(t1.step x1).step L4, (t2.step x1).step L4, (t3.step x1).step L4, x2.step L4, B4, ⟨by omega, x4⟩, t4.trans ((x1.trans (L4.mono x1.size)).mono t4.size)⟩
  clear B2 L2 B4 U4 L4 X1 T0
  generalize W1.heap.size = db at *
  go_upto_region 3 with fail
  have c0 : W4.cell? ⟨w.heap.size, 0, none⟩ = some (.int .i64 mo) := Z4.out.1.cell 0 _ rfl
  have c1 : W4.cell? ⟨w.heap.size, 1, none⟩ = some (.slice g len cap) := Z4.out.1.cell 1 _ rfl
  (try simp only [Act.put, List.getElem_toArray, List.getElem_cons_succ, List.getElem_cons_zero, List.setIfInBounds_toArray, List.set_cons_zero, List.set_cons_succ])
  go_cut [28] (fun c wx => c = .bool true ∧ wx = W4)
  case first =>
    by_cases h1 : mo < 0
    · go_wp2_with fail
      go_meet
      exact ⟨rfl, rfl⟩
    by_cases h2 : 3 < mo
    · go_wp2_with fail
      go_meet
      exact ⟨rfl, rfl⟩
    by_cases h3 : mo = 2
    · subst h3
      go_wp2_with fail
      go_meet
      exact ⟨rfl, rfl⟩
    · have h4 : 40 < (len : Int) := by rcases H.out with h | h | h | h; exact absurd h h1; exact absurd h h2; exact absurd h h3; exact h
      have h5 : 40 < len := by omega
      have h6 : (mo == 2) = false := by simp [h3]
      go_wp2_with fail
      go_meet
      exact ⟨congrArg Value.bool (by simp [h5]), rfl⟩
  case rest =>
  obtain ⟨rfl, hwc⟩ := hcut
  rw [hwc]
  clear hwc c0 c1
  go_upto_region 4 with fail
  have Zd := Z4.out.step (below_drew1 _)
  have HZd : Hid _ := Zd
  clear Zd
  refine wp_region_held_drew (S := fun V => Box 49 V fb (fileC 3 (fun _ => 0)) ∧ Box 52 V db (docC 3 (fun _ => 0)) ∧ Below w.heap.size w V) (by kernel_rfl) ⟨HZd.out.2.2.2.1, HZd.out.2.2.2.2.1, HZd.out.2.2.2.2.2.2⟩ ?_
  intro hS
  refine wpAnyH_take (i := 0) (v := .agg (fileC 3 (fun _ => 0))) rfl (by kernel_rfl) (by kernel_rfl) (by kernel_rfl) (fun _ _ _ h => h) (Or.inl ⟨by kernel_rfl, fun V hV => yield_file hV.1 _ rfl rfl⟩) hS ?_
  (try simp only [Act.put, List.getElem_toArray, List.getElem_cons_succ, List.getElem_cons_zero, List.setIfInBounds_toArray, List.set_cons_zero, List.set_cons_succ])
  refine wpAnyH_take (i := 1) (v := .agg (docC 3 (fun _ => 0))) rfl (by kernel_rfl) (by kernel_rfl) (by kernel_rfl) (fun _ _ _ h => h) (Or.inl ⟨by kernel_rfl, fun V hV => yield_docB hV.2.1 _ rfl rfl⟩) hS ?_
  (try simp only [Act.put, List.getElem_toArray, List.getElem_cons_succ, List.getElem_cons_zero, List.setIfInBounds_toArray, List.set_cons_zero, List.set_cons_succ])
  refine wpAnyH_ready (rs := [2]) (by kernel_rfl) (by simp) ?_
  refine AllReadyH.cons rfl (fun K1 hK1 => ?_) AllReadyH.nil
  rw [if_pos (by kernel_rfl)]
  refine wp_store_file _ _ rfl (w.heap.size + 1) 3 (fun _ => 0) zeroC rfl rfl HZd.out.2.1 zeroC_size ?_
  intro V1 B1 U1
  have S1 : Hid (Box 49 V1 (w.heap.size + 1) (fileC 3 (fun _ => 0)) ∧ Box 52 V1 (w.heap.size + 2) zeroD ∧ Box 49 V1 fb (fileC 3 (fun _ => 0)) ∧ Box 52 V1 db (docC 3 (fun _ => 0)) ∧ Below w.heap.size w V1) := by
    have hlt := HZd.out.2.2.2.2.2.1
    exact ⟨B1, U1.box HZd.out.2.2.1 (by omega), U1.box HZd.out.2.2.2.1 (by omega), U1.box HZd.out.2.2.2.2.1 (by omega), HZd.out.2.2.2.2.2.2.trans (U1.below (by omega) HZd.out.2.2.2.2.2.2.size)⟩
  clear B1 U1
  refine hK1.out _ _ ⟨S1.out.2.2.1, S1.out.2.2.2.1, S1.out.2.2.2.2⟩ (fun hS2 => ?_)
  clear hK1 K1 hS
  (try simp only [Act.put, List.getElem_toArray, List.getElem_cons_succ, List.getElem_cons_zero, List.setIfInBounds_toArray, List.set_cons_zero, List.set_cons_succ])
  refine wpAnyH_ready (rs := [3]) (by kernel_rfl) (by simp) ?_
  refine AllReadyH.cons rfl (fun K1 hK1 => ?_) AllReadyH.nil
  rw [if_pos (by kernel_rfl)]
  refine wp_store_doc _ _ rfl (w.heap.size + 2) 3 (fun _ => 0) zeroD rfl rfl S1.out.2.1 zeroD_size ?_
  intro V2 B2 U2
  have S2 : Hid (Box 49 V2 (w.heap.size + 1) (fileC 3 (fun _ => 0)) ∧ Box 52 V2 (w.heap.size + 2) (docC 3 (fun _ => 0)) ∧ Box 49 V2 fb (fileC 3 (fun _ => 0)) ∧ Box 52 V2 db (docC 3 (fun _ => 0)) ∧ Below w.heap.size w V2) := by
    have hlt := HZd.out.2.2.2.2.2.1
    exact ⟨U2.box S1.out.1 (by omega), B2, U2.box S1.out.2.2.1 (by omega), U2.box S1.out.2.2.2.1 (by omega), S1.out.2.2.2.2.trans (U2.below (by omega) S1.out.2.2.2.2.size)⟩
  clear B2 U2
  refine hK1.out _ _ ⟨S2.out.2.2.1, S2.out.2.2.2.1, S2.out.2.2.2.2⟩ (fun hS3 => ?_)
  clear hK1 K1 hS2
  (try simp only [Act.put, List.getElem_toArray, List.getElem_cons_succ, List.getElem_cons_zero, List.setIfInBounds_toArray, List.set_cons_zero, List.set_cons_succ])
  refine wpAnyH_take (i := 4) (v := .bool false) rfl (by kernel_rfl) (by kernel_rfl) (by kernel_rfl) (fun _ _ _ h => h) (Or.inl ⟨by kernel_rfl, fun V hV => rfl⟩) hS3 ?_
  (try simp only [Act.put, List.getElem_toArray, List.getElem_cons_succ, List.getElem_cons_zero, List.setIfInBounds_toArray, List.set_cons_zero, List.set_cons_succ])
  refine wpAnyH_done (by kernel_rfl) ?_ _
  go_wp2_with fail
  exact bodyPost_ret (v := .tuple #[.agg (fileC 3 (fun _ => 0)), .agg (docC 3 (fun _ => 0)), .bool false]) (results3 (p := 2) (q := 3) (t := 4) rfl _ _ (w.heap.size + 1) (w.heap.size + 2) 3 3 (fun _ => 0) (fun _ => 0) rfl rfl S2.out.1 S2.out.2.1) rfl ⟨rfl, S2.out.2.2.2.2⟩
set_option maxHeartbeats 8000000 in
theorem begun_yes (mo : Int) (g : Option Addr) (len cap ln : Nat) (ws : Nat → Int × Nat) (h1 : ¬ mo < 0) (h2 : ¬ 3 < mo) (h3 : mo ≠ 2) (h4 : ¬ 40 < (len : Int)) (hln : ln < 18446744073709551616) (w : World) (hws : WritesIn w (.slice g len cap) len ws) : Calls Try.prog 15 #[.agg #[.int .i64 mo, .slice g len cap, .int .u64 (ln : Nat)]] w fun e w' => ∃ K, Ok K ∧ e = .returned (.tuple #[.agg (fileC mo K), .agg (docC mo K), .bool true]) ∧ Below w.heap.size w w' := by
  have T0 : Hid (Box 47 (((w.alloc (.cells #[.int .i64 mo, .slice g len cap, .int .u64 (ln : Nat)] 47)).alloc (.cells #[.int .i64 0, .int .u64 0, .int .u64 0, .int .u64 0, .int .u64 0, .int .u64 0, .int .u64 0, .int .u64 0, .int .u64 0, .int .u64 0, .int .u64 0, .int .u64 0, .int .u64 0, .int .u64 0, .int .u64 0, .int .u64 0, .int .u64 0, .int .u64 0, .int .u64 0, .int .u64 0, .int .u64 0, .int .u64 0, .int .u64 0] 49)).alloc (.cells #[.int .i64 0, .int .u64 0, .int .u64 0, .int .u64 0, .int .u64 0, .int .u64 0, .int .u64 0, .int .u64 0, .int .u64 0, .int .u64 0, .int .u64 0, .int .u64 0, .int .u64 0, .int .u64 0, .int .u64 0, .int .u64 0, .int .u64 0, .int .u64 0, .int .u64 0, .int .u64 0, .int .u64 0, .int .u64 0, .int .u64 0] 52)) w.heap.size #[.int .i64 mo, .slice g len cap, .int .u64 (ln : Nat)] ∧ Box 49 (((w.alloc (.cells #[.int .i64 mo, .slice g len cap, .int .u64 (ln : Nat)] 47)).alloc (.cells #[.int .i64 0, .int .u64 0, .int .u64 0, .int .u64 0, .int .u64 0, .int .u64 0, .int .u64 0, .int .u64 0, .int .u64 0, .int .u64 0, .int .u64 0, .int .u64 0, .int .u64 0, .int .u64 0, .int .u64 0, .int .u64 0, .int .u64 0, .int .u64 0, .int .u64 0, .int .u64 0, .int .u64 0, .int .u64 0, .int .u64 0] 49)).alloc (.cells #[.int .i64 0, .int .u64 0, .int .u64 0, .int .u64 0, .int .u64 0, .int .u64 0, .int .u64 0, .int .u64 0, .int .u64 0, .int .u64 0, .int .u64 0, .int .u64 0, .int .u64 0, .int .u64 0, .int .u64 0, .int .u64 0, .int .u64 0, .int .u64 0, .int .u64 0, .int .u64 0, .int .u64 0, .int .u64 0, .int .u64 0] 52)) (w.heap.size + 1) zeroC ∧ Box 52 (((w.alloc (.cells #[.int .i64 mo, .slice g len cap, .int .u64 (ln : Nat)] 47)).alloc (.cells #[.int .i64 0, .int .u64 0, .int .u64 0, .int .u64 0, .int .u64 0, .int .u64 0, .int .u64 0, .int .u64 0, .int .u64 0, .int .u64 0, .int .u64 0, .int .u64 0, .int .u64 0, .int .u64 0, .int .u64 0, .int .u64 0, .int .u64 0, .int .u64 0, .int .u64 0, .int .u64 0, .int .u64 0, .int .u64 0, .int .u64 0] 49)).alloc (.cells #[.int .i64 0, .int .u64 0, .int .u64 0, .int .u64 0, .int .u64 0, .int .u64 0, .int .u64 0, .int .u64 0, .int .u64 0, .int .u64 0, .int .u64 0, .int .u64 0, .int .u64 0, .int .u64 0, .int .u64 0, .int .u64 0, .int .u64 0, .int .u64 0, .int .u64 0, .int .u64 0, .int .u64 0, .int .u64 0, .int .u64 0] 52)) (w.heap.size + 2) zeroD ∧ Below w.heap.size w (((w.alloc (.cells #[.int .i64 mo, .slice g len cap, .int .u64 (ln : Nat)] 47)).alloc (.cells #[.int .i64 0, .int .u64 0, .int .u64 0, .int .u64 0, .int .u64 0, .int .u64 0, .int .u64 0, .int .u64 0, .int .u64 0, .int .u64 0, .int .u64 0, .int .u64 0, .int .u64 0, .int .u64 0, .int .u64 0, .int .u64 0, .int .u64 0, .int .u64 0, .int .u64 0, .int .u64 0, .int .u64 0, .int .u64 0, .int .u64 0] 49)).alloc (.cells #[.int .i64 0, .int .u64 0, .int .u64 0, .int .u64 0, .int .u64 0, .int .u64 0, .int .u64 0, .int .u64 0, .int .u64 0, .int .u64 0, .int .u64 0, .int .u64 0, .int .u64 0, .int .u64 0, .int .u64 0, .int .u64 0, .int .u64 0, .int .u64 0, .int .u64 0, .int .u64 0, .int .u64 0, .int .u64 0, .int .u64 0] 52)) ∧ (((w.alloc (.cells #[.int .i64 mo, .slice g len cap, .int .u64 (ln : Nat)] 47)).alloc (.cells #[.int .i64 0, .int .u64 0, .int .u64 0, .int .u64 0, .int .u64 0, .int .u64 0, .int .u64 0, .int .u64 0, .int .u64 0, .int .u64 0, .int .u64 0, .int .u64 0, .int .u64 0, .int .u64 0, .int .u64 0, .int .u64 0, .int .u64 0, .int .u64 0, .int .u64 0, .int .u64 0, .int .u64 0, .int .u64 0, .int .u64 0] 49)).alloc (.cells #[.int .i64 0, .int .u64 0, .int .u64 0, .int .u64 0, .int .u64 0, .int .u64 0, .int .u64 0, .int .u64 0, .int .u64 0, .int .u64 0, .int .u64 0, .int .u64 0, .int .u64 0, .int .u64 0, .int .u64 0, .int .u64 0, .int .u64 0, .int .u64 0, .int .u64 0, .int .u64 0, .int .u64 0, .int .u64 0, .int .u64 0] 52)).heap.size = w.heap.size + 3) := three_new w #[.int .i64 mo, .slice g len cap, .int .u64 (ln : Nat)] #[.int .i64 0, .int .u64 0, .int .u64 0, .int .u64 0, .int .u64 0, .int .u64 0, .int .u64 0, .int .u64 0, .int .u64 0, .int .u64 0, .int .u64 0, .int .u64 0, .int .u64 0, .int .u64 0, .int .u64 0, .int .u64 0, .int .u64 0, .int .u64 0, .int .u64 0, .int .u64 0, .int .u64 0, .int .u64 0, .int .u64 0] #[.int .i64 0, .int .u64 0, .int .u64 0, .int .u64 0, .int .u64 0, .int .u64 0, .int .u64 0, .int .u64 0, .int .u64 0, .int .u64 0, .int .u64 0, .int .u64 0, .int .u64 0, .int .u64 0, .int .u64 0, .int .u64 0, .int .u64 0, .int .u64 0, .int .u64 0, .int .u64 0, .int .u64 0, .int .u64 0, .int .u64 0]
  have HWS : Hid (WritesIn w (.slice g len cap) len ws) := hws
  have HLN : Hid (ln < 18446744073709551616) := hln
  have h40 : (len : Int) ≤ 40 := by omega
  have HQ0 : Hid (0 ≤ mo ∧ mo ≤ 3 ∧ (len : Int) ≤ 40) := by show 0 ≤ mo ∧ mo ≤ 3 ∧ (len : Int) ≤ 40; omega
  clear hws hln
  go_enter Try.func15, Try.ntmps15
  go_upto_region 1 with fail
  generalize (((w.alloc (.cells #[.int .i64 mo, .slice g len cap, .int .u64 (ln : Nat)] 47)).alloc (.cells #[.int .i64 0, .int .u64 0, .int .u64 0, .int .u64 0, .int .u64 0, .int .u64 0, .int .u64 0, .int .u64 0, .int .u64 0, .int .u64 0, .int .u64 0, .int .u64 0, .int .u64 0, .int .u64 0, .int .u64 0, .int .u64 0, .int .u64 0, .int .u64 0, .int .u64 0, .int .u64 0, .int .u64 0, .int .u64 0, .int .u64 0] 49)).alloc (.cells #[.int .i64 0, .int .u64 0, .int .u64 0, .int .u64 0, .int .u64 0, .int .u64 0, .int .u64 0, .int .u64 0, .int .u64 0, .int .u64 0, .int .u64 0, .int .u64 0, .int .u64 0, .int .u64 0, .int .u64 0, .int .u64 0, .int .u64 0, .int .u64 0, .int .u64 0, .int .u64 0, .int .u64 0, .int .u64 0, .int .u64 0] 52)) = W at *
  go_wp2_with fail
  refine (begin_any _).mono ?_
  rintro e w1 ⟨rfl, hb1⟩
  rename_i KK hKK
  refine hKK _ _ ?_
  clear hKK
  refine wpList_alloc_file rfl rfl ?_
  intro W0 hW0
  have B0 : Box 49 W0 w1.heap.size zeroC := by rw [hW0]; exact Box.new _ _ _
  have L0 : Below w1.heap.size w1 W0 := by rw [hW0]; exact (Below.refl _ _).alloc (Nat.le_refl _) _
  have Z0 : W0.heap.size = w1.heap.size + 1 := by rw [hW0]; simp
  clear hW0
  refine wpList_store_file rfl _ _ rfl w1.heap.size 3 (fun _ => 0) _ rfl rfl B0 zeroC_size ?_
  intro W1 B1 U1
  have L1 : Below W.heap.size W W1 := hb1.trans ((L0.trans (U1.below (Nat.le_refl _) L0.size)).mono hb1.size)
  have Z1 : w1.heap.size < W1.heap.size := by have := U1.size; omega
  have X1 : Hid (Below W.heap.size W W1 ∧ Box 49 W1 w1.heap.size (fileC 3 fun _ => 0) ∧ W.heap.size ≤ w1.heap.size ∧ w1.heap.size < W1.heap.size) := ⟨L1, B1, hb1.size, Z1⟩
  clear B0 L0 B1 U1 Z0 L1 Z1 hb1
  generalize w1.heap.size = fb at *
  go_upto_region 2 with fail
  refine wp_region_list ?_
  refine wpList_build rfl _ _ rfl (by kernel_rfl) ?_
  refine wpList_alloc_doc rfl rfl ?_
  intro W2 hW2
  have B2 : Box 52 W2 W1.heap.size zeroD := by rw [hW2]; exact Box.new _ _ _
  have L2 : Below W1.heap.size W1 W2 := by rw [hW2]; exact (Below.refl _ _).alloc (Nat.le_refl _) _
  clear hW2
  refine wpList_store_doc rfl _ _ rfl W1.heap.size 3 (fun _ => 0) _ rfl (by kernel_rfl) B2 zeroD_size ?_
  intro W4 B4 U4
  have L4 : Below W1.heap.size W1 W4 := L2.trans (U4.below (Nat.le_refl _) L2.size)
  have Z4 : Hid (St w W4 fb W1.heap.size #[.int .i64 mo, .slice g len cap, .int .u64 (ln : Nat)] 3 3 (fun _ => 0) (fun _ => 0)) := by
    obtain ⟨t1, t2, t3, t4, t5⟩ := T0.out
    obtain ⟨x1, x2, x3, x4⟩ := X1.out
    exact ⟨(t1.step x1).step L4, (t2.step x1).step L4, (t3.step x1).step L4, x2.step L4, B4, ⟨by omega, x4⟩, t4.trans ((x1.trans (L4.mono x1.size)).mono t4.size)⟩
  clear B2 L2 B4 U4 L4 X1 T0
  generalize W1.heap.size = db at *
  go_upto_region 3 with fail
  have c0 : W4.cell? ⟨w.heap.size, 0, none⟩ = some (.int .i64 mo) := Z4.out.1.cell 0 _ rfl
  have c1 : W4.cell? ⟨w.heap.size, 1, none⟩ = some (.slice g len cap) := Z4.out.1.cell 1 _ rfl
  (try simp only [Act.put, List.getElem_toArray, List.getElem_cons_succ, List.getElem_cons_zero, List.setIfInBounds_toArray, List.set_cons_zero, List.set_cons_succ])
  go_cut [28] (fun c wx => c = .bool false ∧ wx = W4)
  case first =>
    have h5 : ¬ 40 < len := by omega
    have h6 : (mo == 2) = false := by simp [h3]
    go_wp2_with fail
    go_meet
    exact ⟨congrArg Value.bool (by have := HQ0.out; simp [h5]; omega), rfl⟩
  case rest =>
  obtain ⟨rfl, hwc⟩ := hcut
  rw [hwc]
  clear hwc c0 c1
  go_wp2_with fail
  go_loopw [7] (fun i wr => ∃ (k : Nat) (K : Nat → Nat), k ≤ len ∧ i = .int .i64 k ∧ Hid (Ok K) ∧ Hid (St w wr fb db #[.int .i64 mo, .slice g len cap, .int .u64 (ln : Nat)] 3 3 K K)) (fun i _ => len - (intOf i).toNat)
  case atStart => exact ⟨0, fun _ => 0, by omega, rfl, ok_zero, Z4.out⟩
  case round =>
    obtain ⟨k, K, hk, rfl, HK, HZ⟩ := hrel
    clear Z4
    have c1 : wr.cell? ⟨w.heap.size, 1, none⟩ = some (.slice g len cap) := HZ.out.1.cell 1 _ rfl
    by_cases hlt : k < len
    · have hlt1 : (k : Int) < len := by omega
      have hk40 : (k : Int) < 40 := by omega
      rcases HWS.out with ⟨h0, _⟩ | ⟨bw, off, cap', hve, hbl, hcs⟩
      · omega
      cases hve
      obtain ⟨p1, p2, hx⟩ := hcs k hlt
      rw [← HZ.out.2.2.2.2.2.2.cell (p := ⟨bw, off + k * 2, none⟩) hbl] at p1
      rw [← HZ.out.2.2.2.2.2.2.cell (p := ⟨bw, off + k * 2 + 1, none⟩) hbl] at p2
      generalize (ws k).1 = n at *
      generalize (ws k).2 = x at *
      have HNB : Hid (bw ≠ fb ∧ bw ≠ db) := by have := HZ.out.2.2.2.2.2.1; show bw ≠ fb ∧ bw ≠ db; omega
      have HX : Hid (x < 18446744073709551616) := hx
      have HZd : Hid (St w wr.drew fb db #[.int .i64 mo, .slice (some ⟨bw, off, none⟩) len cap, .int .u64 (ln : Nat)] 3 3 K K) := HZ.out.step (below_drew1 _)
      have HBx : Hid (Box 49 wr.drew fb (fileC 3 K)) := HZd.out.2.2.2.1
      have HW : Hid (∀ V, Box 49 V fb (fileC 3 K) → Calls Try.prog 42 #[.pointer (some ⟨fb, 0, none⟩), .int .i64 n, .int .u64 (x : Int)] V fun e w' => e = .returned (.tuple #[]) ∧ Box 49 w' fb (fileC 3 (writeK K n x)) ∧ Upon fb V w') := fun V hV => write_any 3 K n x fb HK.out HX.out V hV
      have HV : Hid (∀ V, Calls Try.prog 43 #[.agg (docC 3 K), .int .i64 n, .int .u64 (x : Int)] V fun e w' => e = .returned (.agg (docC 3 (writeK K n x))) ∧ Below V.heap.size V w') := fun V => dwrite_any 3 K n x HK.out HX.out V
      have HK2 : Hid (Ok (writeK K n x)) := writeK_ok K n x HK.out HX.out
      generalize writeK K n x = K2 at *
      have q1 : wr.drew.cell? ⟨bw, off + k * 2, none⟩ = some (.int .i64 n) := p1
      have q2 : wr.drew.cell? ⟨bw, off + k * 2 + 1, none⟩ = some (.int .u64 (x : Int)) := p2
      have HQ : Hid (wr.drew.cell? ⟨bw, off + k * 2, none⟩ = some (.int .i64 n) ∧ wr.drew.cell? ⟨bw, off + k * 2 + 1, none⟩ = some (.int .u64 (x : Int))) := ⟨p1, p2⟩
      clear hcs hx q1 q2
      go_wp2_with fail
      go_region_held3 (fun V => V.cell? ⟨w.heap.size, 1, none⟩ = some (.slice (some ⟨bw, off, none⟩) len cap) ∧ V.cell? ⟨bw, off + k * 2, none⟩ = some (.int .i64 n) ∧ V.cell? ⟨bw, off + k * 2 + 1, none⟩ = some (.int .u64 (x : Int))) (go_keep) (first | (go_at_call 42; (with_reducible refine Calls.mono (HW.out _ HBx.out) ?_); rintro e w5 ⟨rfl, hB5, hU5⟩; have X5 : Hid (St w w5 fb db #[.int .i64 mo, .slice (some ⟨bw, off, none⟩) len cap, .int .u64 (ln : Nat)] 3 3 K2 K) := HZd.out.file hB5 hU5; have e1 : w5.cell? ⟨w.heap.size, 1, none⟩ = some (.slice (some ⟨bw, off, none⟩) len cap) := X5.out.1.cell 1 _ rfl; have e2 : w5.cell? ⟨bw, off + k * 2, none⟩ = some (.int .i64 n) := hU5.cell HQ.out.1 HNB.out.1; have e3 : w5.cell? ⟨bw, off + k * 2 + 1, none⟩ = some (.int .u64 (x : Int)) := hU5.cell HQ.out.2 HNB.out.1; clear hB5 hU5))
      have HE : Hid (w5.drew.cell? ⟨w.heap.size, 1, none⟩ = some (.slice (some ⟨bw, off, none⟩) len cap) ∧ w5.drew.cell? ⟨bw, off + k * 2, none⟩ = some (.int .i64 n) ∧ w5.drew.cell? ⟨bw, off + k * 2 + 1, none⟩ = some (.int .u64 (x : Int))) := ⟨e1, e2, e3⟩
      have X5d : Hid (St w w5.drew fb db #[.int .i64 mo, .slice (some ⟨bw, off, none⟩) len cap, .int .u64 (ln : Nat)] 3 3 K2 K) := X5.out.step (below_drew1 _)
      clear e1 e2 e3 HW HBx HZd HQ p1 p2 c1
      go_upto_region 9 with fail
      refine wp_region_held_drew (S := fun V => V.cell? ⟨w.heap.size, 1, none⟩ = some (.slice (some ⟨bw, off, none⟩) len cap) ∧ V.cell? ⟨bw, off + k * 2, none⟩ = some (.int .i64 n) ∧ V.cell? ⟨bw, off + k * 2 + 1, none⟩ = some (.int .u64 (x : Int))) (by kernel_rfl) HE.out ?_
      intro hS
      refine wpAnyH_take (i := 1) (v := ?_) rfl (by kernel_rfl) (by kernel_rfl) (by kernel_rfl) (fun _ _ _ h => h) (Or.inl ⟨by kernel_rfl, ?_⟩) (by assumption) ?_
      rotate_left
      · intro w hSw; (try dsimp only at hSw); go_simp; try (with_reducible rfl)
      (try simp only [Act.put, List.getElem_toArray, List.getElem_cons_succ, List.getElem_cons_zero, List.setIfInBounds_toArray, List.set_cons_zero, List.set_cons_succ])
      refine wpAnyH_take (i := 2) (v := ?_) rfl (by kernel_rfl) (by kernel_rfl) (by kernel_rfl) (fun _ _ _ h => h) (Or.inl ⟨by kernel_rfl, ?_⟩) (by assumption) ?_
      rotate_left
      · intro w hSw; (try dsimp only at hSw); go_simp; try (with_reducible rfl)
      (try simp only [Act.put, List.getElem_toArray, List.getElem_cons_succ, List.getElem_cons_zero, List.setIfInBounds_toArray, List.set_cons_zero, List.set_cons_succ])
      refine wpAnyH_take (i := 3) (v := ?_) rfl (by kernel_rfl) (by kernel_rfl) (by kernel_rfl) (fun _ _ _ h => h) (Or.inl ⟨by kernel_rfl, ?_⟩) (by assumption) ?_
      rotate_left
      · intro w hSw; (try dsimp only at hSw); go_simp; try (with_reducible rfl)
      (try simp only [Act.put, List.getElem_toArray, List.getElem_cons_succ, List.getElem_cons_zero, List.setIfInBounds_toArray, List.set_cons_zero, List.set_cons_succ])
      refine wpAnyH_take (i := 4) (v := ?_) rfl (by kernel_rfl) (by kernel_rfl) (by kernel_rfl) (fun _ _ _ h => h) (Or.inl ⟨by kernel_rfl, ?_⟩) (by assumption) ?_
      rotate_left
      · intro w hSw; (try dsimp only at hSw); go_simp; try (with_reducible rfl)
      (try simp only [Act.put, List.getElem_toArray, List.getElem_cons_succ, List.getElem_cons_zero, List.setIfInBounds_toArray, List.set_cons_zero, List.set_cons_succ])
      refine wpAnyH_take (i := 5) (v := ?_) rfl (by kernel_rfl) (by kernel_rfl) (by kernel_rfl) (fun _ _ _ h => h) (Or.inl ⟨by kernel_rfl, ?_⟩) (by assumption) ?_
      rotate_left
      · intro w hSw; (try dsimp only at hSw); go_simp; try (with_reducible rfl)
      (try simp only [Act.put, List.getElem_toArray, List.getElem_cons_succ, List.getElem_cons_zero, List.setIfInBounds_toArray, List.set_cons_zero, List.set_cons_succ])
      refine wpAnyH_take (i := 6) (v := ?_) rfl (by kernel_rfl) (by kernel_rfl) (by kernel_rfl) (fun _ _ _ h => h) (Or.inl ⟨by kernel_rfl, ?_⟩) (by assumption) ?_
      rotate_left
      · intro w hSw; (try dsimp only at hSw); go_simp; try (with_reducible rfl)
      (try simp only [Act.put, List.getElem_toArray, List.getElem_cons_succ, List.getElem_cons_zero, List.setIfInBounds_toArray, List.set_cons_zero, List.set_cons_succ])
      refine wpAnyH_take (i := 7) (v := ?_) rfl (by kernel_rfl) (by kernel_rfl) (by kernel_rfl) (fun _ _ _ h => h) (Or.inl ⟨by kernel_rfl, ?_⟩) (by assumption) ?_
      rotate_left
      · intro w hSw; (try dsimp only at hSw); go_simp; try (with_reducible rfl)
      (try simp only [Act.put, List.getElem_toArray, List.getElem_cons_succ, List.getElem_cons_zero, List.setIfInBounds_toArray, List.set_cons_zero, List.set_cons_succ])
      refine wpAnyH_take (i := 8) (v := ?_) rfl (by kernel_rfl) (by kernel_rfl) (by kernel_rfl) (fun _ _ _ h => h) (Or.inl ⟨by kernel_rfl, ?_⟩) (by assumption) ?_
      rotate_left
      · intro w hSw; (try dsimp only at hSw); go_simp; try (with_reducible rfl)
      (try simp only [Act.put, List.getElem_toArray, List.getElem_cons_succ, List.getElem_cons_zero, List.setIfInBounds_toArray, List.set_cons_zero, List.set_cons_succ])
      refine wpAnyH_take (i := 9) (v := ?_) rfl (by kernel_rfl) (by kernel_rfl) (by kernel_rfl) (fun _ _ _ h => h) (Or.inl ⟨by kernel_rfl, ?_⟩) (by assumption) ?_
      rotate_left
      · intro w hSw; (try dsimp only at hSw); go_simp; try (with_reducible rfl)
      (try simp only [Act.put, List.getElem_toArray, List.getElem_cons_succ, List.getElem_cons_zero, List.setIfInBounds_toArray, List.set_cons_zero, List.set_cons_succ])
      refine wpAnyH_take (i := 10) (v := ?_) rfl (by kernel_rfl) (by kernel_rfl) (by kernel_rfl) (fun _ _ _ h => h) (Or.inl ⟨by kernel_rfl, ?_⟩) (by assumption) ?_
      rotate_left
      · intro w hSw; (try dsimp only at hSw); go_simp; try (with_reducible rfl)
      (try simp only [Act.put, List.getElem_toArray, List.getElem_cons_succ, List.getElem_cons_zero, List.setIfInBounds_toArray, List.set_cons_zero, List.set_cons_succ])
      refine wpAnyH_take (i := 11) (v := ?_) rfl (by kernel_rfl) (by kernel_rfl) (by kernel_rfl) (fun _ _ _ h => h) (Or.inl ⟨by kernel_rfl, ?_⟩) (by assumption) ?_
      rotate_left
      · intro w hSw; (try dsimp only at hSw); go_simp; try (with_reducible rfl)
      (try simp only [Act.put, List.getElem_toArray, List.getElem_cons_succ, List.getElem_cons_zero, List.setIfInBounds_toArray, List.set_cons_zero, List.set_cons_succ])
      refine wpAnyH_take (i := 12) (v := ?_) rfl (by kernel_rfl) (by kernel_rfl) (by kernel_rfl) (fun _ _ _ h => h) (Or.inl ⟨by kernel_rfl, ?_⟩) (by assumption) ?_
      rotate_left
      · intro w hSw; (try dsimp only at hSw); go_simp; try (with_reducible rfl)
      (try simp only [Act.put, List.getElem_toArray, List.getElem_cons_succ, List.getElem_cons_zero, List.setIfInBounds_toArray, List.set_cons_zero, List.set_cons_succ])
      refine wpAnyH_ready (rs := [0]) (by kernel_rfl) (by simp) ?_
      refine AllReadyH.cons rfl (fun K1 hK1 => ?_) AllReadyH.nil
      rw [if_pos (by kernel_rfl)]
      refine wp_load_doc _ rfl db 3 K rfl X5d.out.2.2.2.2.1 ?_
      refine hK1.out _ _ HE.out (fun hS2 => ?_)
      clear hK1 K1 hS
      (try simp only [Act.put, List.getElem_toArray, List.getElem_cons_succ, List.getElem_cons_zero, List.setIfInBounds_toArray, List.set_cons_zero, List.set_cons_succ])
      refine wpAnyH_ready (rs := [13]) (by kernel_rfl) (by simp) ?_
      refine AllReadyH.cons rfl (fun K1 hK1 => ?_) AllReadyH.nil
      go_simp
      refine (HV.out _).mono ?_
      rintro e w6 ⟨rfl, hb6⟩
      have X6 : Hid (St w w6 fb db #[.int .i64 mo, .slice (some ⟨bw, off, none⟩) len cap, .int .u64 (ln : Nat)] 3 3 K2 K) := X5d.out.step hb6
      have HE6 : Hid (w6.cell? ⟨w.heap.size, 1, none⟩ = some (.slice (some ⟨bw, off, none⟩) len cap) ∧ w6.cell? ⟨bw, off + k * 2, none⟩ = some (.int .i64 n) ∧ w6.cell? ⟨bw, off + k * 2 + 1, none⟩ = some (.int .u64 (x : Int))) := ⟨X6.out.1.cell 1 _ rfl, (hb6.cell (block_lt_of_cell HE.out.2.1)).trans HE.out.2.1, (hb6.cell (block_lt_of_cell HE.out.2.2)).trans HE.out.2.2⟩
      clear hb6
      refine hK1.out _ _ HE6.out (fun hS3 => ?_)
      clear hK1 K1 hS2
      (try simp only [Act.put, List.getElem_toArray, List.getElem_cons_succ, List.getElem_cons_zero, List.setIfInBounds_toArray, List.set_cons_zero, List.set_cons_succ])
      refine wpAnyH_ready (rs := [14]) (by kernel_rfl) (by simp) ?_
      refine AllReadyH.cons rfl (fun K1 hK1 => ?_) AllReadyH.nil
      rw [if_pos (by kernel_rfl)]
      refine wp_store_doc _ _ rfl db 3 K2 (docC 3 K) rfl rfl X6.out.2.2.2.2.1 rfl ?_
      intro w7 B7 U7
      have X7 : Hid (St w w7 fb db #[.int .i64 mo, .slice (some ⟨bw, off, none⟩) len cap, .int .u64 (ln : Nat)] 3 3 K2 K2) := X6.out.doc B7 U7
      refine hK1.out _ _ ⟨X7.out.1.cell 1 _ rfl, U7.cell HE6.out.2.1 HNB.out.2, U7.cell HE6.out.2.2 HNB.out.2⟩ (fun hS4 => ?_)
      clear hK1 K1 hS3 B7 U7
      (try simp only [Act.put, List.getElem_toArray, List.getElem_cons_succ, List.getElem_cons_zero, List.setIfInBounds_toArray, List.set_cons_zero, List.set_cons_succ])
      refine wpAnyH_done (by kernel_rfl) ?_ _
      clear hS4
      go_wp2_with fail
      go_roundw
      case rel => exact ⟨k + 1, K2, by omega, by go_num, HK2.out, X7.out⟩
      case measure => simp [intOf]; omega
    · obtain rfl : k = len := by omega
      have HH : Hid (∀ V, Box 49 V fb (fileC 3 K) → Calls Try.prog 44 #[.pointer (some ⟨fb, 0, none⟩), .int .u64 (ln : Int)] V fun e w' => e = .returned (.tuple #[]) ∧ Box 49 w' fb (fileC 3 (upd K 2 (ln &&& 2696))) ∧ Upon fb V w') := fun V hV => hold_any 3 K ln fb HLN.out V hV
      have HA : Hid (∀ V, Calls Try.prog 45 #[.int .u64 (ln : Int), .int .u64 2696] V fun e w' => e = .returned (.int .u64 (ln &&& 2696 : Nat)) ∧ Below V.heap.size V w') := fun V => rand_any ln 2696 HLN.out (by decide) V
      have HL2 : Hid (ln &&& 2696 < 18446744073709551616) := and_lt _ _ HLN.out
      generalize ln &&& 2696 = y at *
      have c2 : wr.cell? ⟨w.heap.size, 2, none⟩ = some (.int .u64 (ln : Nat)) := HZ.out.1.cell 2 _ rfl
      go_wp2_with fail
      refine (HH.out _ HZ.out.2.2.2.1).mono ?_
      rintro e w5 ⟨rfl, hB5, hU5⟩
      have X5 : Hid (St w w5 fb db #[.int .i64 mo, .slice g k cap, .int .u64 (ln : Nat)] 3 3 (upd K 2 y) K) := HZ.out.file hB5 hU5
      clear hB5 hU5 c1 c2
      have c3 : w5.cell? ⟨w.heap.size, 2, none⟩ = some (.int .u64 (ln : Nat)) := X5.out.1.cell 2 _ rfl
      go_wp2_with fail
      refine (HA.out _).mono ?_
      rintro e w6 ⟨rfl, hb6⟩
      have X6 : Hid (St w w6 fb db #[.int .i64 mo, .slice g k cap, .int .u64 (ln : Nat)] 3 3 (upd K 2 y) K) := X5.out.step hb6
      clear hb6 c3
      have d2 : w6.cell? ⟨db, 3, none⟩ = some (.int .u64 (K 2 : Nat)) := X6.out.2.2.2.2.1.cell 3 _ rfl
      have f2 := X6.out.2.2.2.2.1.frozen 3
      go_upto_region 12 with fail
      have X7 : Hid (St w (w6.setCell ⟨db, 3, none⟩ (.int .u64 (y : Nat))) fb db #[.int .i64 mo, .slice g k cap, .int .u64 (ln : Nat)] 3 3 (upd K 2 y) (upd K 2 y)) := X6.out.doc (by rw [← (set_docC 3 K y).2.2.1]; exact X6.out.2.2.2.2.1.set 3 _) ((Upon.refl _ _).set 3 _)
      generalize w6.setCell ⟨db, 3, none⟩ (.int .u64 (y : Nat)) = w7 at *
      generalize hKF : upd K 2 y = KF at *
      have HKF : Hid (Ok KF) := by rw [← hKF]; exact HK.out.upd _ _ HL2.out
      clear hKF d2 f2
      have X7d : Hid (St w w7.drew fb db #[.int .i64 mo, .slice g k cap, .int .u64 (ln : Nat)] 3 3 KF KF) := X7.out.step (below_drew1 _)
      refine wp_region_held_drew (S := fun V => V.cell? ⟨w.heap.size, 0, none⟩ = some (.int .i64 mo)) (by kernel_rfl) (X7d.out.1.cell 0 _ rfl) ?_
      intro hS
      refine wpAnyH_take (i := 0) (v := ?_) rfl (by kernel_rfl) (by kernel_rfl) (by kernel_rfl) (fun _ _ _ h => h) (Or.inl ⟨by kernel_rfl, ?_⟩) (by assumption) ?_
      rotate_left
      · intro w hSw; (try dsimp only at hSw); go_simp; try (with_reducible rfl)
      (try simp only [Act.put, List.getElem_toArray, List.getElem_cons_succ, List.getElem_cons_zero, List.setIfInBounds_toArray, List.set_cons_zero, List.set_cons_succ])
      refine wpAnyH_take (i := 1) (v := ?_) rfl (by kernel_rfl) (by kernel_rfl) (by kernel_rfl) (fun _ _ _ h => h) (Or.inl ⟨by kernel_rfl, ?_⟩) (by assumption) ?_
      rotate_left
      · intro w hSw; (try dsimp only at hSw); go_simp; try (with_reducible rfl)
      (try simp only [Act.put, List.getElem_toArray, List.getElem_cons_succ, List.getElem_cons_zero, List.setIfInBounds_toArray, List.set_cons_zero, List.set_cons_succ])
      refine wpAnyH_take (i := 2) (v := ?_) rfl (by kernel_rfl) (by kernel_rfl) (by kernel_rfl) (fun _ _ _ h => h) (Or.inl ⟨by kernel_rfl, ?_⟩) (by assumption) ?_
      rotate_left
      · intro w hSw; (try dsimp only at hSw); go_simp; try (with_reducible rfl)
      (try simp only [Act.put, List.getElem_toArray, List.getElem_cons_succ, List.getElem_cons_zero, List.setIfInBounds_toArray, List.set_cons_zero, List.set_cons_succ])
      refine wpAnyH_take (i := 3) (v := ?_) rfl (by kernel_rfl) (by kernel_rfl) (by kernel_rfl) (fun _ _ _ h => h) (Or.inl ⟨by kernel_rfl, ?_⟩) (by assumption) ?_
      rotate_left
      · intro w hSw; (try dsimp only at hSw); go_simp; try (with_reducible rfl)
      (try simp only [Act.put, List.getElem_toArray, List.getElem_cons_succ, List.getElem_cons_zero, List.setIfInBounds_toArray, List.set_cons_zero, List.set_cons_succ])
      refine wpAnyH_take (i := 4) (v := ?_) rfl (by kernel_rfl) (by kernel_rfl) (by kernel_rfl) (fun _ _ _ h => h) (Or.inl ⟨by kernel_rfl, ?_⟩) (by assumption) ?_
      rotate_left
      · intro w hSw; (try dsimp only at hSw); go_simp; try (with_reducible rfl)
      (try simp only [Act.put, List.getElem_toArray, List.getElem_cons_succ, List.getElem_cons_zero, List.setIfInBounds_toArray, List.set_cons_zero, List.set_cons_succ])
      have a0 : w7.drew.cell? ⟨fb, 0, none⟩ = some (.int .i64 3) := X7d.out.2.2.2.1.cell 0 _ rfl
      have a1 := X7d.out.2.2.2.1.frozen 0
      refine wpAnyH_ready (rs := [5]) (by kernel_rfl) (by simp) ?_
      refine AllReadyH.cons rfl (fun K1 hK1 => ?_) AllReadyH.nil
      go_simp
      have X8 : Hid (St w (w7.drew.setCell ⟨fb, 0, none⟩ (.int .i64 mo)) fb db #[.int .i64 mo, .slice g k cap, .int .u64 (ln : Nat)] mo 3 KF KF) := X7d.out.file (by rw [← mode_fileC 3 mo KF]; exact X7d.out.2.2.2.1.set 0 _) ((Upon.refl _ _).set 0 _)
      refine hK1.out _ (w7.drew.setCell ⟨fb, 0, none⟩ (.int .i64 mo)) (X8.out.1.cell 0 _ rfl) (fun hS2 => ?_)
      clear hK1 K1 hS a0 a1
      generalize w7.drew.setCell ⟨fb, 0, none⟩ (.int .i64 mo) = w8 at *
      (try simp only [Act.put, List.getElem_toArray, List.getElem_cons_succ, List.getElem_cons_zero, List.setIfInBounds_toArray, List.set_cons_zero, List.set_cons_succ])
      refine wpAnyH_take (i := 6) (v := ?_) rfl (by kernel_rfl) (by kernel_rfl) (by kernel_rfl) (fun _ _ _ h => h) (Or.inl ⟨by kernel_rfl, ?_⟩) (by assumption) ?_
      rotate_left
      · intro w hSw; (try dsimp only at hSw); go_simp; try (with_reducible rfl)
      (try simp only [Act.put, List.getElem_toArray, List.getElem_cons_succ, List.getElem_cons_zero, List.setIfInBounds_toArray, List.set_cons_zero, List.set_cons_succ])
      have a0 : w8.cell? ⟨db, 0, none⟩ = some (.int .i64 3) := X8.out.2.2.2.2.1.cell 0 _ rfl
      have a1 := X8.out.2.2.2.2.1.frozen 0
      refine wpAnyH_ready (rs := [7]) (by kernel_rfl) (by simp) ?_
      refine AllReadyH.cons rfl (fun K1 hK1 => ?_) AllReadyH.nil
      go_simp
      have X9 : Hid (St w (w8.setCell ⟨db, 0, none⟩ (.int .i64 mo)) fb db #[.int .i64 mo, .slice g k cap, .int .u64 (ln : Nat)] mo mo KF KF) := X8.out.doc (by rw [← mode_docC 3 mo KF]; exact X8.out.2.2.2.2.1.set 0 _) ((Upon.refl _ _).set 0 _)
      refine hK1.out _ (w8.setCell ⟨db, 0, none⟩ (.int .i64 mo)) (X9.out.1.cell 0 _ rfl) (fun hS3 => ?_)
      clear hK1 K1 hS2 a0 a1
      generalize w8.setCell ⟨db, 0, none⟩ (.int .i64 mo) = w9 at *
      (try simp only [Act.put, List.getElem_toArray, List.getElem_cons_succ, List.getElem_cons_zero, List.setIfInBounds_toArray, List.set_cons_zero, List.set_cons_succ])
      refine wpAnyH_done (by kernel_rfl) ?_ _
      clear hS3
      go_upto_region 13 with fail
      have Zd := X9.out.step (below_drew1 _)
      have HZd : Hid _ := Zd
      clear Zd
      refine wp_region_held_drew (S := fun V => Box 49 V fb (fileC mo KF) ∧ Box 52 V db (docC mo KF) ∧ Below w.heap.size w V) (by kernel_rfl) ⟨HZd.out.2.2.2.1, HZd.out.2.2.2.2.1, HZd.out.2.2.2.2.2.2⟩ ?_
      intro hS
      refine wpAnyH_take (i := 0) (v := .agg (fileC mo KF)) rfl (by kernel_rfl) (by kernel_rfl) (by kernel_rfl) (fun _ _ _ h => h) (Or.inl ⟨by kernel_rfl, fun V hV => yield_file hV.1 _ rfl rfl⟩) hS ?_
      (try simp only [Act.put, List.getElem_toArray, List.getElem_cons_succ, List.getElem_cons_zero, List.setIfInBounds_toArray, List.set_cons_zero, List.set_cons_succ])
      refine wpAnyH_take (i := 1) (v := .agg (docC mo KF)) rfl (by kernel_rfl) (by kernel_rfl) (by kernel_rfl) (fun _ _ _ h => h) (Or.inl ⟨by kernel_rfl, fun V hV => yield_docB hV.2.1 _ rfl rfl⟩) hS ?_
      (try simp only [Act.put, List.getElem_toArray, List.getElem_cons_succ, List.getElem_cons_zero, List.setIfInBounds_toArray, List.set_cons_zero, List.set_cons_succ])
      refine wpAnyH_ready (rs := [2]) (by kernel_rfl) (by simp) ?_
      refine AllReadyH.cons rfl (fun K1 hK1 => ?_) AllReadyH.nil
      rw [if_pos (by kernel_rfl)]
      refine wp_store_file _ _ rfl (w.heap.size + 1) mo KF zeroC rfl rfl HZd.out.2.1 zeroC_size ?_
      intro V1 B1 U1
      have S1 : Hid (Box 49 V1 (w.heap.size + 1) (fileC mo KF) ∧ Box 52 V1 (w.heap.size + 2) zeroD ∧ Box 49 V1 fb (fileC mo KF) ∧ Box 52 V1 db (docC mo KF) ∧ Below w.heap.size w V1) := by
        have hlt := HZd.out.2.2.2.2.2.1
        exact ⟨B1, U1.box HZd.out.2.2.1 (by omega), U1.box HZd.out.2.2.2.1 (by omega), U1.box HZd.out.2.2.2.2.1 (by omega), HZd.out.2.2.2.2.2.2.trans (U1.below (by omega) HZd.out.2.2.2.2.2.2.size)⟩
      clear B1 U1
      refine hK1.out _ _ ⟨S1.out.2.2.1, S1.out.2.2.2.1, S1.out.2.2.2.2⟩ (fun hS2 => ?_)
      clear hK1 K1 hS
      (try simp only [Act.put, List.getElem_toArray, List.getElem_cons_succ, List.getElem_cons_zero, List.setIfInBounds_toArray, List.set_cons_zero, List.set_cons_succ])
      refine wpAnyH_ready (rs := [3]) (by kernel_rfl) (by simp) ?_
      refine AllReadyH.cons rfl (fun K1 hK1 => ?_) AllReadyH.nil
      rw [if_pos (by kernel_rfl)]
      refine wp_store_doc _ _ rfl (w.heap.size + 2) mo KF zeroD rfl rfl S1.out.2.1 zeroD_size ?_
      intro V2 B2 U2
      have S2 : Hid (Box 49 V2 (w.heap.size + 1) (fileC mo KF) ∧ Box 52 V2 (w.heap.size + 2) (docC mo KF) ∧ Box 49 V2 fb (fileC mo KF) ∧ Box 52 V2 db (docC mo KF) ∧ Below w.heap.size w V2) := by
        have hlt := HZd.out.2.2.2.2.2.1
        exact ⟨U2.box S1.out.1 (by omega), B2, U2.box S1.out.2.2.1 (by omega), U2.box S1.out.2.2.2.1 (by omega), S1.out.2.2.2.2.trans (U2.below (by omega) S1.out.2.2.2.2.size)⟩
      clear B2 U2
      refine hK1.out _ _ ⟨S2.out.2.2.1, S2.out.2.2.2.1, S2.out.2.2.2.2⟩ (fun hS3 => ?_)
      clear hK1 K1 hS2
      (try simp only [Act.put, List.getElem_toArray, List.getElem_cons_succ, List.getElem_cons_zero, List.setIfInBounds_toArray, List.set_cons_zero, List.set_cons_succ])
      refine wpAnyH_take (i := 4) (v := .bool true) rfl (by kernel_rfl) (by kernel_rfl) (by kernel_rfl) (fun _ _ _ h => h) (Or.inl ⟨by kernel_rfl, fun V hV => rfl⟩) hS3 ?_
      (try simp only [Act.put, List.getElem_toArray, List.getElem_cons_succ, List.getElem_cons_zero, List.setIfInBounds_toArray, List.set_cons_zero, List.set_cons_succ])
      refine wpAnyH_done (by kernel_rfl) ?_ _
      go_wp2_with fail
      exact bodyPost_ret (v := .tuple #[.agg (fileC mo KF), .agg (docC mo KF), .bool true]) (results3 (p := 2) (q := 3) (t := 4) rfl _ _ (w.heap.size + 1) (w.heap.size + 2) mo mo KF KF rfl rfl S2.out.1 S2.out.2.1) rfl ⟨KF, HKF.out, rfl, S2.out.2.2.2.2⟩
end Go.Proofs.Ytalgidnmmghejaa.E
