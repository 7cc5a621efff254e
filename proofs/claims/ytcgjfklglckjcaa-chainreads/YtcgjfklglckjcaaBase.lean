/- A memory of layer 2 as it lies in the world: its own three cells, the map of its pages, the pages' bytes; and what becomes of it while the world goes on. -/
import Derived.Test.YtcgjfklglckjcaaWord
import Derived.Maps.OwnSet
import Derived.Maps.RangeWalk
import Derived.Laws.CopyOwn
namespace Go.Proofs.Ytcgjfklglckjcaa
open Go.RowKit Go.Maps
set_option linter.unusedVariables false
theorem keyed25 : Keyed Try.prog 23 := int_keyed Try.underlying23
theorem zero79 (w : World) : (zeroValue 104).run Try.prog w = .ok (.pointer none) w := by kernel_rfl
/-- a page that was never written -/
def zeroPage : Array Value := Array.replicate 4096 (.int .u8 0)
/-- a page's cells -/
def pageRow (f : Nat → Nat) : Array Value := (rowK .u8 f 4096).toArray
theorem replicate_row (n : Nat) : Array.replicate n (Value.int .u8 0) = (rowK .u8 (fun _ => 0) n).toArray := by
  rw [← rowK_zero]; simp
theorem zeroPage_row : zeroPage = pageRow (fun _ => 0) := replicate_row 4096
theorem pageRow_congr (f g : Nat → Nat) (h : ∀ i, i < 4096 → f i = g i) : pageRow f = pageRow g := by
  unfold pageRow; rw [rowK_congr .u8 f g 4096 h]
theorem pageRow_get (f : Nat → Nat) (i : Nat) (h : i < 4096) : (pageRow f)[i]? = some (.int .u8 (f i : Nat)) := by
  unfold pageRow; rw [List.getElem?_toArray]; exact rowK_get _ _ _ _ h
theorem rowK_length (k : IntKind) (f : Nat → Nat) (n : Nat) : (rowK k f n).length = n := by simp [rowK]
theorem pageRow_size (f : Nat → Nat) : (pageRow f).size = 4096 := by
  unfold pageRow; rw [List.size_toArray, rowK_length]
theorem zero81 : (Try.prog.info? 106).map (fun i => (i.zero, i.size)) = some (some (.agg zeroPage), 4096) := by kernel_rfl
theorem run_alloc81 (w : World) : (Instr.alloc 106 true (.tuple #[])).run Try.prog w = .ok (.pointer (some ⟨w.heap.size, 0, none⟩)) (w.alloc (.cells zeroPage 106)) := by
  have h := zero81
  cases hq : Try.prog.info? 106 with
  | none => simp [hq] at h
  | some i =>
    have hz : i.zero = some (.agg zeroPage) := by simp [hq] at h; exact h.1
    simp [Instr.alloc, zeroValue, typeInfo, hq, hz, newVar, newRow, Value.cells]
theorem run_slice81 (w : World) (b r c : Nat) (hr : r < 4096) (hc : c = 4096 - r) : (Instr.sliceAt 106 (.pointer (some ⟨b, 0, none⟩)) (some (.int .i64 (r : Nat))) none none).run Try.prog w = .ok (.slice (some ⟨b, r, none⟩) c c) w := by
  have hu : Try.prog.underlying 106 = some (.array 4096 5) := Try.underlying106
  have hsz : (sizeOf 5).run Try.prog w = .ok 1 w := by kernel_rfl
  have hadd : (⟨b, 0, none⟩ : Addr).add (r * 1) = ⟨b, r, none⟩ := by unfold Addr.add; split <;> simp_all
  have hle : (r : Int) ≤ (4096 : Nat) := by omega
  have hne : ¬ (4096 : Nat) = r := by omega
  simp only [Instr.sliceAt, Instr.sureAddr, run_underlying hu, Sem.run_bind, Result.andThen_ok, Instr.sliceBounds, Sem.run_pure, run_sliceBound, hle, hsz, Int.toNat_natCast, if_neg hne, hadd, Int.natCast_nonneg, hc, Option.isSome_none, Bool.false_eq_true, if_false]
section
variable {P : Program} {w : World} {ops : Array Oper} {rest : List Oper} {o : Oper} {a : Act} {Q : Exit → Act → World → Prop}
theorem wpList_alloc81 (hg : o.guard = none) (hop : o.op = Op.alloc 106) (h : wpList Try.prog ops Q rest (a.put o.dst (.pointer (some ⟨w.heap.size, 0, none⟩))) (w.alloc (.cells zeroPage 106))) : wpList Try.prog ops Q (o :: rest) a w := by
  refine wpList_plain hg fun K hK => ?_
  unfold Oper.wp
  simp [execOp, hop, run_alloc81 w, Result.andThen]
  exact hK _ _ h
theorem wpList_slice81 (hg : o.guard = none) (x lo : Operand) (hop : o.op = Op.slice 106 x (some lo) none none) (b r c : Nat) (hx : a.eval x = .pointer (some ⟨b, 0, none⟩)) (hlo : a.eval lo = .int .i64 (r : Nat)) (hr : r < 4096) (hc : c = 4096 - r)
    (h : wpList Try.prog ops Q rest (a.put o.dst (.slice (some ⟨b, r, none⟩) c c)) w) : wpList Try.prog ops Q (o :: rest) a w := by
  refine wpList_plain hg fun K hK => ?_
  unfold Oper.wp
  simp [execOp, hop, hx, hlo, run_slice81 w b r c hr hc, Result.andThen]
  exact hK _ _ h
theorem wpList_lookup_run (hg : o.guard = none) (m x : Operand) (t : TypeId) (hop : o.op = Op.lookup t m x true) {mv key v : Value} (hm : a.eval m = mv) (hx : a.eval x = key) (hrun : (Instr.lookup t mv key true).run P w = .ok v w)
    (h : wpList P ops Q rest (a.put o.dst v) w) : wpList P ops Q (o :: rest) a w := by
  refine wpList_plain hg fun K hK => ?_
  unfold Oper.wp
  simp [execOp, hop, hm, hx, hrun, Result.andThen]
  exact hK _ _ h
theorem wpList_mapUpdate_run (hg : o.guard = none) (m x v : Operand) (t : TypeId) (hop : o.op = Op.mapUpdate t m x v) {mv key val : Value} {w' : World} (hm : a.eval m = mv) (hx : a.eval x = key) (hv : a.eval v = val) (hrun : (Instr.mapUpdate t mv key val).run P w = .ok () w')
    (h : wpList P ops Q rest (a.put o.dst undef) w') : wpList P ops Q (o :: rest) a w := by
  refine wpList_plain hg fun K hK => ?_
  unfold Oper.wp
  simp [execOp, hop, hm, hx, hv, hrun, Result.andThen]
  exact hK _ _ h
end
/-- a pointer to a block's first cell reads as the block's number -/
def ptrElem (v : Value) : Option (DataW Unit × List MemPlace) :=
  match v with
  | .pointer (some ⟨b, 0, none⟩) => some (.lit (.int .u64 (b : Nat)), [])
  | _ => none
theorem ptrElem_inv {v : Value} {z : DataW Unit × List MemPlace} (h : ptrElem v = some z) : ∃ b : Nat, v = .pointer (some ⟨b, 0, none⟩) ∧ z = (.lit (.int .u64 (b : Nat)), []) := by
  unfold ptrElem at h
  split at h
  · cases h; exact ⟨_, rfl, rfl⟩
  · cases h
/-- the map's datum says which block each page lies in -/
def Paged (D : DataW Unit) (pg : Nat → Option Nat) : Prop :=
  ∀ k : Nat, (pg k = none ∧ ∀ zd, D.atKey (.int .u64 (k : Nat)) zd = zd) ∨ ∃ b : Nat, pg k = some b ∧ ∀ zd, D.atKey (.int .u64 (k : Nat)) zd = .lit (.int .u64 (b : Nat))
def ptrOf : Option Nat → Value
  | none => .pointer none
  | some b => .pointer (some ⟨b, 0, none⟩)
theorem wf_u64 {k : Nat} (h : k < 18446744073709551616) : (Lit.int .u64 (k : Nat)).wf = true := by
  simp [Lit.wf, IntKind.min, IntKind.max, IntKind.signed, IntKind.bits]; omega
theorem key25 {k : Nat} (h : k < 18446744073709551616) : keyOf Try.prog 23 (.int .u64 (k : Nat)) = some (.int .u64 (k : Nat)) := keyOf_int_mk Try.underlying23 (wf_u64 h)
theorem lit_inj {a b : Nat} (h : (DataW.lit (.int .u64 (a : Nat)) : DataW Unit) = .lit (.int .u64 (b : Nat))) : a = b := by
  simp at h; omega
theorem pages_look {w : World} {bm n : Nat} {D : DataW Unit} {pg : Nat → Option Nat} (h : w.ownsMap Try.prog 23 ptrElem bm n D) (hp : Paged D pg) (k : Nat) (hk : k < 18446744073709551616) :
    (Instr.lookup 101 (.map (some bm)) (.int .u64 (k : Nat)) true).run Try.prog w = .ok (.tuple #[ptrOf (pg k), .bool (pg k).isSome]) w := by
  obtain ⟨es, clock, hb, F, _, rfl⟩ := h
  rcases Maps.fit_look true keyed25 Try.underlying101 (zero79 w) hb F (key25 hk) with ⟨hrun, _, hat⟩ | ⟨e0, y, _, _, hrun, hRv, hat, _⟩
  · rcases hp k with ⟨e, _⟩ | ⟨b, e, h2⟩
    · rw [hrun, e]; rfl
    · have := (hat .nil).symm.trans (h2 .nil); cases this
  · obtain ⟨b, ev, rfl⟩ := ptrElem_inv hRv
    rcases hp k with ⟨e, h2⟩ | ⟨b', e, h2⟩
    · have := (hat .nil).symm.trans (h2 .nil); cases this
    · have := lit_inj ((hat .nil).symm.trans (h2 .nil))
      subst this
      rw [hrun, e, ev]; rfl
theorem pages_put {w : World} {bm n : Nat} {D : DataW Unit} {pg : Nat → Option Nat} (h : w.ownsMap Try.prog 23 ptrElem bm n D) (hp : Paged D pg) (k b : Nat) (hk : k < 18446744073709551616) (hn : n < maxLen) :
    ∃ w' D', (Instr.mapUpdate 101 (.map (some bm)) (.int .u64 (k : Nat)) (.pointer (some ⟨b, 0, none⟩))).run Try.prog w = .ok () w' ∧ w'.ownsMap Try.prog 23 ptrElem bm (n + 1) D' ∧ Paged D' (fun j => if j = k then some b else pg j) ∧ w.grownBy w' (some bm) := by
  obtain ⟨w', hrun, r1, r2⟩ := h.update keyed25 Try.underlying101 hn (key25 hk) (val := .pointer (some ⟨b, 0, none⟩)) (d := .lit (.int .u64 (b : Nat))) (ps := []) rfl
  refine ⟨w', _, hrun, r1, fun j => ?_, r2⟩
  by_cases e : j = k
  · subst e
    exact .inr ⟨b, by simp, fun zd => atKey_put_same h.isMap (keyed25.key (key25 hk)) _ _⟩
  · have hne : Lit.int .u64 (j : Nat) ≠ Lit.int .u64 (k : Nat) := fun h => e (by simp at h; omega)
    rcases hp j with ⟨e1, h2⟩ | ⟨b', e1, h2⟩
    · exact .inl ⟨by simp [e, e1], fun zd => by rw [atKey_put_other hne]; exact h2 zd⟩
    · exact .inr ⟨b', by simp [e, e1], fun zd => by rw [atKey_put_other hne]; exact h2 zd⟩
theorem paged_made : Paged (.map []) (fun _ => none) := fun k => .inl ⟨rfl, fun zd => rfl⟩

/-- what the world's going on leaves alone: all blocks but those of F; F' has F's and new ones -/
structure Step (F : Nat → Prop) (w : World) (F' : Nat → Prop) (w' : World) : Prop where
  os : w'.os = w.os
  tape : w'.tape = w.tape
  output : w'.output = w.output
  size : w.heap.size ≤ w'.heap.size
  block : ∀ k, k < w.heap.size → ¬ F k → w'.heap[k]? = w.heap[k]?
  old : ∀ k, F' k → F k ∨ w.heap.size ≤ k
  keep : ∀ k, F k → F' k
theorem Step.refl (F : Nat → Prop) (w : World) : Step F w F w := ⟨rfl, rfl, rfl, Nat.le_refl _, fun _ _ _ => rfl, fun _ h => .inl h, fun _ h => h⟩
theorem Step.trans {F F' F'' : Nat → Prop} {w w' w'' : World} (h : Step F w F' w') (g : Step F' w' F'' w'') : Step F w F'' w'' :=
  ⟨g.os.trans h.os, g.tape.trans h.tape, g.output.trans h.output, Nat.le_trans h.size g.size,
   fun k hk hf => (g.block k (Nat.lt_of_lt_of_le hk h.size) (fun hf' => by rcases h.old k hf' with h1 | h1; exact hf h1; omega)).trans (h.block k hk hf),
   fun k hf => by rcases g.old k hf with h1 | h1; exact h.old k h1; exact .inr (Nat.le_trans h.size h1),
   fun k hf => g.keep k (h.keep k hf)⟩
theorem Step.of_below {F : Nat → Prop} {w w' : World} (h : Below w.heap.size w w') : Step F w F w' :=
  ⟨h.os, h.tape, h.output, h.size, fun k hk _ => h.block k hk, fun _ h => .inl h, fun _ h => h⟩
theorem Step.below {F F' : Nat → Prop} {w w' : World} {B : Nat} (h : Step F w F' w') (hB : B ≤ w.heap.size) (hF : ∀ k, F k → B ≤ k) : Below B w w' :=
  ⟨h.os, h.tape, h.output, h.size, fun k hk => h.block k (by omega) (fun hf => by have := hF k hf; omega)⟩
theorem Step.base {F F' : Nat → Prop} {w w' : World} {B : Nat} (h : Step F w F' w') (hB : B ≤ w.heap.size) (hF : ∀ k, F k → B ≤ k) : ∀ k, F' k → B ≤ k :=
  fun k hk => by rcases h.old k hk with h1 | h1; exact hF k h1; omega

/-- A MEMORY: block rb holds its size, its map of pages and its log; M: its bytes by their addresses; F: blocks that are its own. -/
def RamIn (w : World) (F : Nat → Prop) (rb size n : Nat) (lg : Value) (M : Nat → Nat) (bm : Nat) (pg : Nat → Option Nat) (D : DataW Unit) : Prop :=
  w.heap[rb]? = some (.cells #[.int .u64 (size : Nat), .map (some bm), lg] 103 (0, 0)) ∧ w.ownsMap Try.prog 23 ptrElem bm n D ∧ Paged D pg ∧
    (∀ k b, pg k = some b → w.heap[b]? = some (.cells (pageRow (fun i => M (k * 4096 + i))) 106 (0, 0))) ∧
    (∀ k, pg k = none → ∀ i, i < 4096 → M (k * 4096 + i) = 0) ∧ (∀ k k' b, pg k = some b → pg k' = some b → k = k') ∧
    F rb ∧ F bm ∧ (∀ k b, pg k = some b → F b) ∧ (∀ k, F k → k < w.heap.size) ∧ (∀ a, M a ≤ 255)
def RamAt (w : World) (F : Nat → Prop) (rb size n : Nat) (lg : Value) (M : Nat → Nat) : Prop := ∃ bm pg D, RamIn w F rb size n lg M bm pg D
theorem RamAt.kept {w w' : World} {F : Nat → Prop} {rb size n : Nat} {lg : Value} {M : Nat → Nat} (h : RamAt w F rb size n lg M) (hs : w.heap.size ≤ w'.heap.size) (hb : ∀ k, F k → w'.heap[k]? = w.heap[k]?) : RamAt w' F rb size n lg M := by
  obtain ⟨bm, pg, D, h1, h2, h3, h4, h5, h6, f1, f2, f3, f4, h7⟩ := h
  refine ⟨bm, pg, D, (hb rb f1).trans h1, ?_, h3, fun k b hk => (hb b (f3 k b hk)).trans (h4 k b hk), h5, h6, f1, f2, f3, fun k hk => Nat.lt_of_lt_of_le (f4 k hk) hs, h7⟩
  obtain ⟨es, clock, e1, e2, e3, e4⟩ := h2
  exact ⟨es, clock, (hb bm f2).trans e1, e2, e3, e4⟩
theorem RamAt.below {w w' : World} {F : Nat → Prop} {rb size n : Nat} {lg : Value} {M : Nat → Nat} (h : RamAt w F rb size n lg M) (hb : Below w.heap.size w w') : RamAt w' F rb size n lg M := by
  have h' := h
  obtain ⟨bm, pg, D, h1, h2, h3, h4, h5, h6, f1, f2, f3, f4, h7⟩ := h'
  exact h.kept hb.size (fun k hk => hb.block k (f4 k hk))
/-- .. while another part of the world goes on -/
theorem RamAt.step {w w' : World} {F G G' : Nat → Prop} {rb size n : Nat} {lg : Value} {M : Nat → Nat} (h : RamAt w F rb size n lg M) (hs : Step G w G' w') (hd : ∀ k, F k → ¬ G k) : RamAt w' F rb size n lg M := by
  have h' := h
  obtain ⟨bm, pg, D, h1, h2, h3, h4, h5, h6, f1, f2, f3, f4, h7⟩ := h'
  exact h.kept hs.size (fun k hk => hs.block k (f4 k hk) (hd k hk))
theorem RamAt.lt {w : World} {F : Nat → Prop} {rb size n : Nat} {lg : Value} {M : Nat → Nat} (h : RamAt w F rb size n lg M) : ∀ k, F k → k < w.heap.size := by
  obtain ⟨bm, pg, D, h1, h2, h3, h4, h5, h6, f1, f2, f3, f4, h7⟩ := h
  exact f4
theorem RamAt.le {w : World} {F : Nat → Prop} {rb size n : Nat} {lg : Value} {M : Nat → Nat} (h : RamAt w F rb size n lg M) : ∀ a, M a ≤ 255 := by
  obtain ⟨bm, pg, D, h1, h2, h3, h4, h5, h6, f1, f2, f3, f4, h7⟩ := h
  exact h7
theorem RamAt.own {w : World} {F : Nat → Prop} {rb size n : Nat} {lg : Value} {M : Nat → Nat} (h : RamAt w F rb size n lg M) : F rb := by
  obtain ⟨bm, pg, D, h1, h2, h3, h4, h5, h6, f1, f2, f3, f4, h7⟩ := h
  exact f1
theorem RamAt.mono {w : World} {F : Nat → Prop} {rb size n n' : Nat} {lg : Value} {M : Nat → Nat} (h : RamAt w F rb size n lg M) (hn : n ≤ n') : RamAt w F rb size n' lg M := by
  obtain ⟨bm, pg, D, h1, h2, h3, h4, h5, h6, f1, f2, f3, f4, h7⟩ := h
  exact ⟨bm, pg, D, h1, h2.mono hn, h3, h4, h5, h6, f1, f2, f3, f4, h7⟩
theorem RamAt.congr {w : World} {F : Nat → Prop} {rb size n : Nat} {lg : Value} {M M' : Nat → Nat} (h : RamAt w F rb size n lg M) (hM : ∀ a, M a = M' a) : RamAt w F rb size n lg M' := by
  have : M = M' := funext hM
  rw [← this]; exact h
/-- the three cells of a memory -/
theorem RamAt.cells {w : World} {F : Nat → Prop} {rb size n : Nat} {lg : Value} {M : Nat → Nat} (h : RamAt w F rb size n lg M) : w.cell? ⟨rb, 0, none⟩ = some (.int .u64 (size : Nat)) ∧ w.cell? ⟨rb, 2, none⟩ = some lg := by
  obtain ⟨bm, pg, D, h1, h2, h3, h4, h5, h6, f1, f2, f3, f4, h7⟩ := h
  exact ⟨by simp [World.cell?, h1], by simp [World.cell?, h1]⟩
/-- a page is made for an address that had none -/
theorem RamIn.newPage {w : World} {F : Nat → Prop} {rb size n : Nat} {lg : Value} {M : Nat → Nat} {bm : Nat} {pg : Nat → Option Nat} {D : DataW Unit} (h : RamIn w F rb size n lg M bm pg D) (k : Nat) (hk : k < 18446744073709551616) (hn : n < maxLen) (h0 : pg k = none) :
    ∃ w' D', (Instr.mapUpdate 101 (.map (some bm)) (.int .u64 (k : Nat)) (.pointer (some ⟨w.heap.size, 0, none⟩))).run Try.prog (w.alloc (.cells zeroPage 106)) = .ok () w' ∧
      RamIn w' (fun x => F x ∨ x = w.heap.size) rb size (n + 1) lg M bm (fun j => if j = k then some w.heap.size else pg j) D' ∧ Step F w (fun x => F x ∨ x = w.heap.size) w' := by
  obtain ⟨h1, h2, h3, h4, h5, h6, f1, f2, f3, f4, h7⟩ := h
  obtain ⟨w', D', hrun, r1, r2, r3⟩ := pages_put (h2.alloc (.cells zeroPage 106)) h3 k w.heap.size hk hn
  have hsz : (w.alloc (.cells zeroPage 106)).heap.size = w.heap.size + 1 := by simp
  have hs' : w.heap.size + 1 ≤ w'.heap.size := by have := r3.size; omega
  have old : ∀ x, x < w.heap.size → x ≠ bm → w'.heap[x]? = w.heap[x]? := fun x hx hne =>
    (r3.block x (by omega) (by simpa using hne)).trans ((World.grownBy_alloc w _ none).block x hx (by simp))
  have nb : ∀ x, w.heap[x]? ≠ none → w.ownsMap Try.prog 23 ptrElem bm n D → (∀ es c, w.heap[x]? ≠ some (.map es c)) → x ≠ bm := by
    rintro x _ ⟨es, c, hb, _⟩ hx rfl
    exact hx es c hb
  have rbm : rb ≠ bm := nb rb (by rw [h1]; simp) h2 (fun es c => by rw [h1]; simp)
  have bmlt := f4 bm f2
  refine ⟨w', D', hrun, ⟨(old rb (f4 rb f1) rbm).trans h1, r1, r2, ?_, ?_, ?_, .inl f1, .inl f2, ?_, ?_, h7⟩, ?_⟩
  · intro j b hj
    by_cases e : j = k
    · subst e
      simp only [if_true] at hj
      cases hj
      rw [r3.block w.heap.size (by omega) (by simp; omega), heap_alloc_new, zeroPage_row]
      rw [pageRow_congr _ _ (fun i hi => (h5 j h0 i hi).symm)]
    · simp only [e, if_false] at hj
      have hb := h4 j b hj
      rw [old b (f4 b (f3 j b hj)) (nb b (by rw [hb]; simp) h2 (fun es c => by rw [hb]; simp))]
      exact hb
  · intro j hj i hi
    by_cases e : j = k
    · simp [e] at hj
    · simp only [e, if_false] at hj
      exact h5 j hj i hi
  · intro j j' b hj hj'
    by_cases e : j = k <;> by_cases e' : j' = k
    · omega
    · simp only [e, e', if_true, if_false] at hj hj'
      cases hj
      have := f4 _ (f3 _ _ hj'); omega
    · simp only [e, e', if_true, if_false] at hj hj'
      cases hj'
      have := f4 _ (f3 _ _ hj); omega
    · simp only [e, e', if_false] at hj hj'
      exact h6 _ _ _ hj hj'
  · intro j b hj
    by_cases e : j = k
    · simp only [e, if_true] at hj; cases hj; exact .inr rfl
    · simp only [e, if_false] at hj; exact .inl (f3 j b hj)
  · intro x hx
    rcases hx with hx | rfl
    · have := f4 x hx; omega
    · omega
  · exact ⟨r3.os, r3.tape, r3.output, by omega, fun x hx hf => old x hx (fun e => hf (e ▸ f2)), fun x hx => hx.elim .inl (fun e => .inr (by omega)), fun x hx => .inl hx⟩
/-- a page's row is laid anew -/
theorem RamIn.setPage {w : World} {F : Nat → Prop} {rb size n : Nat} {lg : Value} {M M' : Nat → Nat} {bm : Nat} {pg : Nat → Option Nat} {D : DataW Unit} (h : RamIn w F rb size n lg M bm pg D) (k b : Nat) (hb : pg k = some b) (row : Array Value)
    (hrow : row = pageRow (fun i => M' (k * 4096 + i))) (hout : ∀ j, j ≠ k → ∀ i, i < 4096 → M' (j * 4096 + i) = M (j * 4096 + i)) (hle : ∀ a, M' a ≤ 255) :
    RamIn (w.setRow b row) F rb size n lg M' bm pg D ∧ Step F w F (w.setRow b row) := by
  obtain ⟨h1, h2, h3, h4, h5, h6, f1, f2, f3, f4, h7⟩ := h
  have hbb := h4 k b hb
  have old : ∀ x, x ≠ b → (w.setRow b row).heap[x]? = w.heap[x]? := fun x hx => setRow_other w b x row hx
  have hsz : (w.setRow b row).heap.size = w.heap.size := by simp [World.setRow]
  have nrb : rb ≠ b := by
    rintro rfl
    rw [h1] at hbb
    simp at hbb
  have nbm : bm ≠ b := by
    rintro rfl
    obtain ⟨es, c, e1, _⟩ := h2
    rw [e1] at hbb
    simp at hbb
  refine ⟨⟨(old rb nrb).trans h1, ?_, h3, ?_, ?_, h6, f1, f2, f3, fun x hx => by rw [hsz]; exact f4 x hx, hle⟩, ⟨rfl, rfl, rfl, by rw [hsz]; exact Nat.le_refl _, fun x hx hf => old x (fun e => hf (e ▸ f3 k b hb)), fun x hx => .inl hx, fun x hx => hx⟩⟩
  · obtain ⟨es, c, e1, e2, e3, e4⟩ := h2
    exact ⟨es, c, (old bm nbm).trans e1, e2, e3, e4⟩
  · intro j c hj
    by_cases e : j = k
    · subst e
      rw [hb] at hj
      cases hj
      rw [setRow_heap w b _ row 106 _ hbb, hrow]
    · have hne : c ≠ b := fun e1 => e (h6 j k c hj (by rw [e1]; exact hb))
      rw [old c hne, h4 j c hj, pageRow_congr _ _ (fun i hi => (hout j e i hi).symm)]
  · intro j hj i hi
    have e : j ≠ k := by rintro rfl; rw [hb] at hj; cases hj
    rw [hout j e i hi]
    exact h5 j hj i hi
end Go.Proofs.Ytcgjfklglckjcaa
