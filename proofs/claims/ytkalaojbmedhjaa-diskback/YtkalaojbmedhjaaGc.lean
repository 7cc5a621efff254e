/- A disk as it lies in the world, the document's one beside it; laws at operations on whole sectors. -/
import Derived.Test.YtkalaojbmedhjaaGb
namespace Go.Proofs.Ytkalaojbmedhjaa
open Go.RowKit Go.Maps
set_option linter.unusedVariables false
set_option linter.unusedSimpArgs false
set_option maxRecDepth 100000
/-- a disk, plainly: how many sectors, whether locked, requests, flushes, the request that fails, all bytes in a row -/
structure Dk where
  count : Nat
  locked : Bool
  reqs : Nat
  fl : Nat
  fail : Nat
  M : Nat → Nat
structure Dk.Ok (K : Dk) : Prop where
  cnt : K.count ≤ 65536
  req : K.reqs < 18446744073709551616
  flu : K.fl < 18446744073709551616
  fai : K.fail < 18446744073709551616
  le : ∀ a, K.M a ≤ 255
  out : ∀ a, K.count * 512 ≤ a → K.M a = 0
def inc (n : Nat) : Nat := (n + 1) % 18446744073709551616
theorem inc_lt (n : Nat) : inc n < 18446744073709551616 := Nat.mod_lt _ (by omega)
theorem inc_num (n : Nat) : IntKind.u64.wrap ((n : Int) + 1) = ((inc n : Nat) : Int) := by rw [wrap_u64]; unfold inc; omega
/-- a request is counted, and the one that fails is nearer -/
def askK (K : Dk) : Dk := { K with reqs := inc K.reqs, fail := K.fail - 1 }
def askE (K : Dk) : Nat := if K.fail = 1 then 133 else 0
theorem askK_ok {K : Dk} (h : K.Ok) : (askK K).Ok := ⟨h.cnt, inc_lt _, h.flu, by have := h.fai; show K.fail - 1 < _; omega, h.le, h.out⟩
/-- the error of a piece -/
def pieceE (c x n : Nat) : Nat := if n % 512 ≠ 0 then 20 else if x ≤ c ∧ n / 512 ≤ c - x then 0 else 131
def readE (K : Dk) (x n : Nat) : Nat := if K.fail = 1 then 133 else pieceE K.count x n
def writeE (K : Dk) (x n : Nat) : Nat := if K.fail = 1 then 133 else if K.locked = true then 132 else pieceE K.count x n
def flushK (K : Dk) : Dk := if K.fail = 1 then askK K else { askK K with fl := inc K.fl }
theorem flushK_ok {K : Dk} (h : K.Ok) : (flushK K).Ok := by
  unfold flushK
  split
  · exact askK_ok h
  · have := askK_ok h
    exact ⟨this.cnt, this.req, inc_lt _, this.fai, this.le, this.out⟩
/-- bytes laid from a place on, 0 behind them up to a length; nothing beyond the end -/
def layN (M : Nat → Nat) (N x n L : Nat) (f : Nat → Nat) (a : Nat) : Nat := if a < N then (if x ≤ a ∧ a < x + n then (if a - x < L then f (a - x) else 0) else M a) else 0
theorem layN_le {M : Nat → Nat} (N x n L : Nat) (f : Nat → Nat) (h : ∀ a, M a ≤ 255) (hf : ∀ i, f i ≤ 255) (a : Nat) : layN M N x n L f a ≤ 255 := by
  unfold layN
  have := h a; have := hf (a - x)
  split
  · split
    · split <;> omega
    · omega
  · omega
theorem layN_out (M : Nat → Nat) (N x n L : Nat) (f : Nat → Nat) (a : Nat) (h : N ≤ a) : layN M N x n L f a = 0 := by unfold layN; rw [if_neg (by omega)]
/-- as many whole sectors as bytes need -/
def up (L : Nat) : Nat := (L + 511) / 512 * 512
def putK (K : Dk) (x L : Nat) (f : Nat → Nat) : Dk := { K with M := layN K.M (K.count * 512) (x * 512) (up L) L f }
theorem putK_ok {K : Dk} (h : K.Ok) (x L : Nat) (f : Nat → Nat) (hf : ∀ i, f i ≤ 255) : (putK K x L f).Ok := ⟨h.cnt, h.req, h.flu, h.fai, layN_le _ _ _ _ _ h.le hf, fun a ha => layN_out _ _ _ _ _ _ _ ha⟩
def writeK (K : Dk) (x L : Nat) (f : Nat → Nat) : Dk := if writeE K x L = 0 then putK (askK K) x L f else askK K
theorem writeK_ok {K : Dk} (h : K.Ok) (x L : Nat) (f : Nat → Nat) (hf : ∀ i, f i ≤ 255) : (writeK K x L f).Ok := by
  unfold writeK
  split
  · exact putK_ok (askK_ok h) x L f hf
  · exact askK_ok h
def fillK (K : Dk) (L : Nat) (f : Nat → Nat) : Dk := putK K 0 L f
def failK (K : Dk) (n : Nat) : Dk := { K with fail := n }
theorem failK_ok {K : Dk} (h : K.Ok) (n : Nat) (hn : n < 18446744073709551616) : (failK K n).Ok := ⟨h.cnt, h.req, h.flu, hn, h.le, h.out⟩
/-- but for two blocks all is as it was -/
def Two (a b : Nat) (w w' : World) : Prop := Below 0 w w' ∧ ∀ k, k < w.heap.size → k ≠ a → k ≠ b → w'.heap[k]? = w.heap[k]?
section
variable {a b : Nat} {w w' w2 : World}
theorem Two.refl (a b : Nat) (w : World) : Two a b w w := ⟨Below.refl _ _, fun _ _ _ _ => rfl⟩
theorem Two.size (h : Two a b w w') : w.heap.size ≤ w'.heap.size := h.1.size
theorem Two.trans (h : Two a b w w') (k : Two a b w' w2) : Two a b w w2 := ⟨h.1.trans k.1, fun i hi ha hb => (k.2 i (Nat.lt_of_lt_of_le hi h.size) ha hb).trans (h.2 i hi ha hb)⟩
theorem Two.of_below (h : Below w.heap.size w w') : Two a b w w' := ⟨h.mono (Nat.zero_le _), fun k hk _ _ => h.block k hk⟩
theorem Two.of_upon (h : Upon a w w') : Two a b w w' := ⟨h.1, fun k hk ha _ => h.2 k hk ha⟩
theorem Two.of_grown (h : w.grownBy w' (some b)) : Two a b w w' := ⟨⟨h.os, h.tape, h.output, h.size, fun k hk => absurd hk (Nat.not_lt_zero _)⟩, fun k hk _ hb => h.block k hk (fun e => hb (Option.some.inj e))⟩
theorem Two.below (h : Two a b w w') {B : Nat} (h1 : B ≤ a) (h2 : B ≤ b) (h3 : B ≤ w.heap.size) : Below B w w' := ⟨h.1.os, h.1.tape, h.1.output, h.1.size, fun k hk => h.2 k (by omega) (by omega) (by omega)⟩
theorem Two.box {t : TypeId} {k : Nat} {c : Array Value} (h : Two a b w w') (hx : Box t w k c) (ha : k ≠ a) (hb : k ≠ b) : Box t w' k c := (h.2 k hx.lt ha hb).trans hx
theorem Two.heap {k : Nat} {o : Obj} (h : Two a b w w') (hx : w.heap[k]? = some o) (ha : k ≠ a) (hb : k ≠ b) : w'.heap[k]? = some o := (h.2 k (Array.getElem?_eq_some_iff.1 hx).1 ha hb).trans hx
theorem Two.cell {p : Addr} {v : Value} (h : Two a b w w') (hp : w.cell? p = some v) (ha : p.block ≠ a) (hb : p.block ≠ b) : w'.cell? p = some v := (World.cell?_of_block (w := w) (h.2 p.block (block_lt_of_cell hp) ha hb)).trans hp
end
def diskC (K : Dk) (bm : Nat) : Array Value := #[.int .u64 (K.count : Nat), .bool K.locked, .map (some bm), .int .u64 (K.reqs : Nat), .int .u64 (K.fl : Nat), .int .u64 (K.fail : Nat)]
def MapAt (w : World) (bm c : Nat) (M : Nat → Nat) : Prop := ∃ D, w.ownsMap Try.prog 26 secElem bm c D ∧ Sect D M
/-- A DISK: block db its cells, block bm its map -/
def DiskAt (w : World) (db bm : Nat) (K : Dk) : Prop := Box 60 w db (diskC K bm) ∧ MapAt w bm K.count K.M ∧ K.Ok
section
variable {w w' : World} {db bm c : Nat} {K K2 : Dk} {M : Nat → Nat}
theorem MapAt.kept (h : MapAt w bm c M) (e : w'.heap[bm]? = w.heap[bm]?) : MapAt w' bm c M := by
  obtain ⟨D, ⟨es, clock, e1, e2⟩, hp⟩ := h
  exact ⟨D, ⟨es, clock, e.trans e1, e2⟩, hp⟩
theorem MapAt.lt (h : MapAt w bm c M) : bm < w.heap.size := by obtain ⟨D, h, _⟩ := h; exact h.lt
theorem DiskAt.lt (h : DiskAt w db bm K) : db < w.heap.size ∧ bm < w.heap.size := ⟨h.1.lt, h.2.1.lt⟩
theorem DiskAt.ne (h : DiskAt w db bm K) : db ≠ bm := by
  rintro rfl
  obtain ⟨h1, ⟨D, ⟨es, clock, e1, _⟩, _⟩, _⟩ := h
  unfold Box at h1
  rw [e1] at h1
  simp at h1
theorem DiskAt.step (h : DiskAt w db bm K) (hb : Below w.heap.size w w') : DiskAt w' db bm K := ⟨h.1.step hb, h.2.1.kept (hb.block _ h.2.1.lt), h.2.2⟩
theorem DiskAt.two {a b : Nat} (h : DiskAt w db bm K) (hu : Two a b w w') (h1 : db ≠ a) (h2 : db ≠ b) (h3 : bm ≠ a) (h4 : bm ≠ b) : DiskAt w' db bm K := ⟨hu.box h.1 h1 h2, h.2.1.kept (hu.2 _ h.2.1.lt h3 h4), h.2.2⟩
theorem DiskAt.upon {a : Nat} (h : DiskAt w db bm K) (hu : Upon a w w') (h1 : db ≠ a) (h3 : bm ≠ a) : DiskAt w' db bm K := ⟨hu.box h.1 h1, h.2.1.kept (hu.2 _ h.2.1.lt h3), h.2.2⟩
/-- the disk's own cells are others, its sectors are as they were -/
theorem DiskAt.cells (h : DiskAt w db bm K) (hc : K2.count = K.count) (hM : K2.M = K.M) (hk : K2.Ok) (hx : Box 60 w' db (diskC K2 bm)) (hu : Upon db w w') : DiskAt w' db bm K2 := by
  refine ⟨hx, ?_, hk⟩
  rw [hc, hM]
  exact h.2.1.kept (hu.2 _ h.2.1.lt (Ne.symm h.ne))
end
/-- the document's disk as a value: its bytes lie in block g -/
def docC (K : Dk) (g N : Nat) : Array Value := #[.slice (some ⟨g, 0, none⟩) N N, .bool K.locked, .int .u64 (K.fail : Nat), .int .u64 (K.reqs : Nat), .int .u64 (K.fl : Nat)]
def DocAt (w : World) (g N : Nat) (K : Dk) : Prop := w.heap[g]? = some (.cells (rowK .u8 K.M N).toArray 5 (0, 0)) ∧ N = K.count * 512 ∧ K.Ok
theorem DocAt.lt {w : World} {g N : Nat} {K : Dk} (h : DocAt w g N K) : g < w.heap.size := (Array.getElem?_eq_some_iff.1 h.1).1
theorem DocAt.step {w w' : World} {g N : Nat} {K : Dk} (h : DocAt w g N K) (hb : Below w.heap.size w w') : DocAt w' g N K := ⟨below_box h.1 hb, h.2⟩
theorem DocAt.two {w w' : World} {g N a b : Nat} {K : Dk} (h : DocAt w g N K) (hu : Two a b w w') (h1 : g ≠ a) (h2 : g ≠ b) : DocAt w' g N K := ⟨hu.heap h.1 h1 h2, h.2⟩
theorem DocAt.upon {w w' : World} {g N a : Nat} {K : Dk} (h : DocAt w g N K) (hu : Upon a w w') (h1 : g ≠ a) : DocAt w' g N K := ⟨(hu.2 _ h.lt h1).trans h.1, h.2⟩
theorem DocAt.cell {w : World} {g N : Nat} {K : Dk} (h : DocAt w g N K) (i : Nat) (hi : i < N) : w.cell? ⟨g, i, none⟩ = some (.int .u8 (K.M i : Nat)) := cellOf h.1 i _ (by rw [List.getElem?_toArray]; exact rowK_get _ _ _ _ hi)
theorem DocAt.same {w : World} {g N : Nat} {K K2 : Dk} (h : DocAt w g N K) (hc : K2.count = K.count) (hM : K2.M = K.M) (hk : K2.Ok) : DocAt w g N K2 := ⟨by rw [hM]; exact h.1, by rw [hc]; exact h.2.1, hk⟩
/-- whole sectors at operations -/
theorem upon_row {b : Nat} {w w' : World} (h : Upon b w w') (d : Array Value) : Upon b w (w'.setRow b d) := ⟨⟨h.1.os, h.1.tape, h.1.output, by rw [setRow_size]; exact h.1.size, fun k hk => absurd hk (Nat.not_lt_zero _)⟩, fun k hk hb => (setRow_other w' b k d hb).trans (h.2 k hk hb)⟩
theorem run_alloc63 (w : World) : (Instr.alloc 63 true (.tuple #[])).run Try.prog w = .ok (.pointer (some ⟨w.heap.size, 0, none⟩)) (w.alloc (.cells (secRow fun _ => 0) 63)) := by
  have h := zinfo63
  cases hq : Try.prog.info? 63 with
  | none => simp [hq] at h
  | some i =>
    have hz : i.zero = some (.agg (secRow fun _ => 0)) := by simp [hq] at h; exact h.1
    simp [Instr.alloc, zeroValue, typeInfo, hq, hz, newVar, newRow, Value.cells]
theorem run_slice63 (w : World) (b : Nat) : (Instr.sliceAt 63 (.pointer (some ⟨b, 0, none⟩)) none none none).run Try.prog w = .ok (.slice (some ⟨b, 0, none⟩) 512 512) w := by
  have hu : Try.prog.underlying 63 = some (.array 512 5) := Try.underlying63
  have hsz : (sizeOf 5).run Try.prog w = .ok 1 w := by kernel_rfl
  have hadd : (⟨b, 0, none⟩ : Addr).add (0 * 1) = ⟨b, 0, none⟩ := by unfold Addr.add; split <;> simp_all
  simp [Instr.sliceAt, Instr.sureAddr, run_underlying hu, Sem.run_bind, Result.andThen_ok, Instr.sliceBounds, Sem.run_pure, hsz]
  exact hadd
theorem run_build63 (w : World) : (Instr.build 63 #[]).run Try.prog w = .ok (.agg (secRow fun _ => 0)) w := by
  have hu : Try.prog.underlying 63 = some (.array 512 5) := Try.underlying63
  have hsz : (sizeOf 5).run Try.prog w = .ok 1 w := by kernel_rfl
  simp [Instr.build, zero63 w, run_underlying hu, hsz, Value.cells, Instr.fill]
theorem plain5 : Try.prog.plainKey 5 = true := by kernel_rfl
theorem under5 : Try.prog.underlying 5 = some (.int .u8) := by kernel_rfl
theorem cells5 : Try.prog.cellsOf 5 = 1 := by kernel_rfl
theorem guard63 : Try.prog.eqGuardType Try.prog.depth 63 = false := by kernel_rfl
theorem run_items (d : Nat) (f g : Nat → Nat) (w : World) : ∀ is : List Nat, (∀ i ∈ is, i < 512) → (Op.eqItems (d + 1) 5 1 (secRow f) (secRow g) is).run Try.prog w = .ok (is.all fun i => f i == g i) w
  | [], _ => by simp [Op.eqItems]
  | i :: is, h => by
    have hi : i < 512 := h i (by simp)
    have p1 := run_part_plain (P := Try.prog) w plain5 (secRow_get f i hi)
    have p2 := run_part_plain (P := Try.prog) w plain5 (secRow_get g i hi)
    have p3 := run_equalIn_int (P := Try.prog) w d 5 .u8 .u8 (f i : Nat) (g i : Nat) under5
    have ih := run_items d f g w is (fun j hj => h j (by simp [hj]))
    have e : ((f i : Int) == (g i : Int)) = (f i == g i) := by rw [Bool.eq_iff_iff]; simp; omega
    rw [e] at p3
    simp only [Op.eqItems, Sem.run_bind, Nat.mul_one, p1, p2, p3, Result.andThen_ok, List.all_cons]
    cases f i == g i
    · simp
    · simpa using ih
theorem run_equalIn63 (f g : Nat → Nat) (w : World) : (Op.equalIn 10000 63 (.agg (secRow f)) (.agg (secRow g))).run Try.prog w = .ok (secEq f g) w := by
  cases hq : Try.prog.info? 5 with
  | none => have : (Try.prog.info? 5).isSome = true := by kernel_rfl
            simp [hq] at this
  | some i =>
    rw [run_equalIn_array (P := Try.prog) w 9999 (secRow f) (secRow g) Try.underlying63 hq, cells5, run_items 9998 f g w _ (by simp)]
    rfl
theorem run_neq63 (f g : Nat → Nat) (w : World) : (binOp .neq 63 (.agg (secRow f)) (.agg (secRow g))).run Try.prog w = .ok (.bool (!secEq f g)) w := by
  rw [run_neq_struct, run_equalIn63 f g w]
  rfl
theorem run_eql63 (f g : Nat → Nat) (w : World) : (binOp .eql 63 (.agg (secRow f)) (.agg (secRow g))).run Try.prog w = .ok (.bool (secEq f g)) w := by
  rw [run_eql_struct, run_equalIn63 f g w]
  rfl
section
variable {w : World} {ops : Array Oper} {rest : List Oper} {o : Oper} {a : Act} {Q : Exit → Act → World → Prop}
theorem wpList_want (hw : Region.wanted o (yielded ops a.tmps) = true) (h : ∀ KK : Act → World → Prop, (∀ a w, wpList Try.prog ops Q rest a w → KK a w) → o.wp Try.prog a w KK Q) : wpList Try.prog ops Q (o :: rest) a w :=
  wpList_step fun KK hKK => by rw [if_pos hw]; exact h KK hKK
theorem wpList_alloc63 (hg : o.guard = none) (hop : o.op = Op.alloc 63) (h : wpList Try.prog ops Q rest (a.put o.dst (.pointer (some ⟨w.heap.size, 0, none⟩))) (w.alloc (.cells (secRow fun _ => 0) 63))) : wpList Try.prog ops Q (o :: rest) a w := by
  refine wpList_plain hg fun K hK => ?_
  unfold Oper.wp
  simp [execOp, hop, run_alloc63 w, Result.andThen]
  exact hK _ _ h
theorem wpList_slice63 (hg : o.guard = none) (x : Operand) (hop : o.op = Op.slice 63 x none none none) (b : Nat) (hx : a.eval x = .pointer (some ⟨b, 0, none⟩))
    (h : wpList Try.prog ops Q rest (a.put o.dst (.slice (some ⟨b, 0, none⟩) 512 512)) w) : wpList Try.prog ops Q (o :: rest) a w := by
  refine wpList_plain hg fun K hK => ?_
  unfold Oper.wp
  simp [execOp, hop, hx, run_slice63 w b, Result.andThen]
  exact hK _ _ h
theorem wpList_box63 (hg : o.guard = none) (x : Operand) (hop : o.op = Op.box 63 x) (f : Nat → Nat) (hx : a.eval x = .agg (secRow f)) (h : wpList Try.prog ops Q rest (a.put o.dst (.pointer (some ⟨w.heap.size, 0, none⟩))) (w.alloc (.cells (secRow f) 63))) : wpList Try.prog ops Q (o :: rest) a w := by
  refine wpList_plain hg fun K hK => ?_
  unfold Oper.wp
  simp [execOp, hop, hx, Instr.box, newVar, newRow, Value.cells, Result.andThen]
  exact hK _ _ h
theorem wpList_load63 (hg : o.guard = none) (x : Operand) (ho : o.op = .load 63 x) (b : Nat) (f : Nat → Nat) (hx : a.eval x = .pointer (some ⟨b, 0, none⟩)) (hb : Box 63 w b (secRow f))
    (h : wpList Try.prog ops Q rest (a.put o.dst (.agg (secRow f))) w) : wpList Try.prog ops Q (o :: rest) a w :=
  wpList_load_row hg 63 x ho b hx 63 _ (0, 0) _ hb Try.underlying63 rfl (info63 f) h
theorem wpList_load63G (hw : Region.wanted o (yielded ops a.tmps) = true) (x : Operand) (ho : o.op = .load 63 x) (b : Nat) (f : Nat → Nat) (hx : a.eval x = .pointer (some ⟨b, 0, none⟩)) (hb : Box 63 w b (secRow f))
    (h : wpList Try.prog ops Q rest (a.put o.dst (.agg (secRow f))) w) : wpList Try.prog ops Q (o :: rest) a w :=
  wpList_want hw fun KK hKK => wp_load_row 63 x ho b hx 63 _ (0, 0) _ hb Try.underlying63 rfl (info63 f) (hKK _ _ h)
theorem wpList_store63 (hg : o.guard = none) (x y : Operand) (ho : o.op = .store 63 x y) (b : Nat) (f : Nat → Nat) (old : Array Value) (hx : a.eval x = .pointer (some ⟨b, 0, none⟩)) (hy : a.eval y = .agg (secRow f)) (hb : Box 63 w b old) (hs : old.size = (secRow f).size)
    (h : ∀ W, Box 63 W b (secRow f) → Upon b w W → wpList Try.prog ops Q rest (a.put o.dst undef) W) : wpList Try.prog ops Q (o :: rest) a w :=
  wpList_store_row hg 63 x y ho b (secRow f) hx hy 63 old hb (info63 f) hs (secRow_one f) (h _ (setRow_heap w b old _ 63 (0, 0) hb) (upon_row (Upon.refl _ _) _))
theorem wpList_build63 (hg : o.guard = none) (hop : o.op = Op.build 63 #[]) (h : wpList Try.prog ops Q rest (a.put o.dst (.agg (secRow fun _ => 0))) w) : wpList Try.prog ops Q (o :: rest) a w := by
  refine wpList_plain hg fun K hK => ?_
  unfold Oper.wp
  simp [execOp, hop, run_build63 w, Result.andThen]
  exact hK _ _ h
theorem wpList_eql63 (hg : o.guard = none) (x y : Operand) (r : TypeId) (hop : o.op = Op.binOp .eql 63 x y r) (f g : Nat → Nat) (hx : a.eval x = .agg (secRow f)) (hy : a.eval y = .agg (secRow g)) (h : wpList Try.prog ops Q rest (a.put o.dst (.bool (secEq f g))) w) : wpList Try.prog ops Q (o :: rest) a w := by
  refine wpList_plain hg fun K hK => ?_
  unfold Oper.wp
  simp [execOp, hop, hx, hy, run_eql63 f g, run_eqGuard_agg (P := Try.prog) w _ _ _ _ _ _ guard63, Result.andThen]
  exact hK _ _ h
theorem wpList_neq63G (hw : Region.wanted o (yielded ops a.tmps) = true) (x y : Operand) (r : TypeId) (hop : o.op = Op.binOp .neq 63 x y r) (f g : Nat → Nat) (hx : a.eval x = .agg (secRow f)) (hy : a.eval y = .agg (secRow g)) (h : wpList Try.prog ops Q rest (a.put o.dst (.bool (!secEq f g))) w) : wpList Try.prog ops Q (o :: rest) a w := by
  refine wpList_want hw fun K hK => ?_
  unfold Oper.wp
  simp [execOp, hop, hx, hy, run_neq63 f g, run_eqGuard_agg (P := Try.prog) w _ _ _ _ _ _ guard63, Result.andThen]
  exact hK _ _ h
theorem wpList_delete_run (hg : o.guard = none) (m x : Operand) (hop : o.op = Op.call { callee := Callee.builtin Builtin.delete, args := #[m, x], argTypes := #[58, 26] }) {mv key : Value} {w' : World} (hm : a.eval m = mv) (hx : a.eval x = key) (hrun : (Builtin.delete_ #[58, 26] o.type #[mv, key]).run Try.prog w = .ok (.tuple #[]) w')
    (h : wpList Try.prog ops Q rest (a.put o.dst (.tuple #[])) w') : wpList Try.prog ops Q (o :: rest) a w := by
  refine wpList_plain hg fun K hK => ?_
  unfold Oper.wp
  simp [execOp, hop, resolve, invoke, builtin, hm, hx, hrun, Result.andThen]
  exact hK _ _ h
theorem wpList_look_run (hg : o.guard = none) (m x : Operand) (t : TypeId) (ok : Bool) (hop : o.op = Op.lookup t m x ok) {mv key v : Value} (hm : a.eval m = mv) (hx : a.eval x = key) (hrun : (Instr.lookup t mv key ok).run Try.prog w = .ok v w)
    (h : wpList Try.prog ops Q rest (a.put o.dst v) w) : wpList Try.prog ops Q (o :: rest) a w := by
  refine wpList_plain hg fun K hK => ?_
  unfold Oper.wp
  simp [execOp, hop, hm, hx, hrun, Result.andThen]
  exact hK _ _ h
theorem wpList_extract_at (hg : o.guard = none) (x : Operand) (i : Nat) (vs : Array Value) (v : Value) (hop : o.op = Op.extract x i) (hx : a.eval x = .tuple vs) (hv : vs[i]? = some v) (h : wpList Try.prog ops Q rest (a.put o.dst v) w) : wpList Try.prog ops Q (o :: rest) a w := by
  refine wpList_plain hg fun KK hKK => ?_
  unfold Oper.wp
  simp only [execOp, hop, hx]
  simp [hv, Instr.extract, go_sem]
  exact hKK _ _ h
end
end Go.Proofs.Ytkalaojbmedhjaa
