/- The registers' file of layer 8 as it lies in memory, on both sides, and the small calls of the program. -/
import Derived.Test.YtalgidnmmghejaaBw
import Derived.Laws.NewBlocks
import Derived.Laws.StructEq
import Derived.Laws.Tables
import Derived.Laws.Rows
import Derived.Deep.DeepCutAuto
import Derived.Deep.CutBlock
import Derived.Deep.RegionWith
import Derived.Deep.RegionHeld3
namespace Go.Proofs.Ytalgidnmmghejaa.E
open Go.RowKit
set_option linter.unusedVariables false
set_option linter.unusedSimpArgs false
theorem ret_bool {a b : Bool} (h : a = b) : Ending.returned (.bool a) = .returned (.bool b) := by rw [h]
theorem ret_nat {a b : Nat} (h : a = b) : Ending.returned (.int .u64 (a : Int)) = .returned (.int .u64 (b : Int)) := by rw [h]
/-- what is kept, with another word at one place -/
def upd (K : Nat → Nat) (i x : Nat) : Nat → Nat := fun j => if j = i then x else K j
theorem upd_at (K : Nat → Nat) (i x : Nat) : upd K i x i = x := by unfold upd; rw [if_pos rfl]
theorem upd_ne (K : Nat → Nat) (i x j : Nat) (h : j ≠ i) : upd K i x j = K j := by unfold upd; rw [if_neg h]
def Ok (K : Nat → Nat) : Prop := ∀ i, K i < 18446744073709551616
theorem Ok.upd {K : Nat → Nat} (h : Ok K) (i x : Nat) (hx : x < 18446744073709551616) : Ok (upd K i x) := by
  intro j; unfold Go.Proofs.Ytalgidnmmghejaa.E.upd; split; exact hx; exact h j
/-- the program's file, cell by cell -/
def fileC (m : Int) (K : Nat → Nat) : Array Value := #[.int .i64 m, .int .u64 (K 0 : Nat), .int .u64 (K 3 : Nat), .int .u64 (K 4 : Nat), .int .u64 (K 5 : Nat), .int .u64 (K 1 : Nat), .int .u64 (K 2 : Nat), .int .u64 (K 6 : Nat), .int .u64 (K 7 : Nat), .int .u64 (K 8 : Nat), .int .u64 (K 9 : Nat), .int .u64 (K 10 : Nat), .int .u64 (K 11 : Nat), .int .u64 (K 12 : Nat), .int .u64 (K 13 : Nat), .int .u64 (K 14 : Nat), .int .u64 (K 15 : Nat), .int .u64 (K 16 : Nat), .int .u64 (K 17 : Nat), .int .u64 (K 18 : Nat), .int .u64 (K 19 : Nat), .int .u64 (K 20 : Nat), .int .u64 (K 21 : Nat)]
/-- the document's file, cell by cell -/
def docC (m : Int) (K : Nat → Nat) : Array Value := #[.int .i64 m, .int .u64 (K 0 : Nat), .int .u64 (K 1 : Nat), .int .u64 (K 2 : Nat), .int .u64 (K 3 : Nat), .int .u64 (K 4 : Nat), .int .u64 (K 5 : Nat), .int .u64 (K 6 : Nat), .int .u64 (K 7 : Nat), .int .u64 (K 8 : Nat), .int .u64 (K 9 : Nat), .int .u64 (K 10 : Nat), .int .u64 (K 11 : Nat), .int .u64 (K 12 : Nat), .int .u64 (K 13 : Nat), .int .u64 (K 14 : Nat), .int .u64 (K 15 : Nat), .int .u64 (K 16 : Nat), .int .u64 (K 17 : Nat), .int .u64 (K 18 : Nat), .int .u64 (K 19 : Nat), .int .u64 (K 20 : Nat), .int .u64 (K 21 : Nat)]
def Box (t : TypeId) (w : World) (b : Nat) (c : Array Value) : Prop := w.heap[b]? = some (.cells c t (0, 0))
theorem below_box {w w2 : World} {b : Nat} {o : Obj} (h : w.heap[b]? = some o) (hb : Below w.heap.size w w2) : w2.heap[b]? = some o := (hb.block b (Array.getElem?_eq_some_iff.1 h).1).trans h
section
variable {t : TypeId} {w w' : World} {b : Nat} {c : Array Value}
theorem Box.step (h : Box t w b c) (hb : Below w.heap.size w w') : Box t w' b c := below_box h hb
theorem Box.lt (h : Box t w b c) : b < w.heap.size := (Array.getElem?_eq_some_iff.1 h).1
theorem Box.set (h : Box t w b c) (i : Nat) (v : Value) : Box t (w.setCell ⟨b, i, none⟩ v) b (c.setIfInBounds i v) := heap_setCell_same w b i c t v h
theorem Box.other {k : Nat} (h : Box t w b c) (i : Nat) (v : Value) (hk : b ≠ k) : Box t (w.setCell ⟨k, i, none⟩ v) b c := (heap_setCell_other w ⟨k, i, none⟩ b v hk).trans h
theorem Box.alloc (h : Box t w b c) (o : Obj) : Box t (w.alloc o) b c := h.step ((Below.refl _ _).alloc (Nat.le_refl _) o)
theorem Box.new (t : TypeId) (w : World) (c : Array Value) : Box t (w.alloc (.cells c t)) w.heap.size c := heap_alloc_new w (.cells c t)
theorem Box.cell (h : Box t w b c) (i : Nat) (v : Value) (hi : c[i]? = some v) : w.cell? ⟨b, i, none⟩ = some v := by
  unfold Box at h; simp only [World.cell?, h]; exact hi
theorem Box.frozen (h : Box t w b c) (i : Nat) : w.frozen? ⟨b, i, none⟩ = false := by
  unfold Box at h; simp only [World.frozen?, h]; simp
end
/-- but for one block all is as it was -/
def Upon (b : Nat) (w w' : World) : Prop := Below 0 w w' ∧ ∀ k, k < w.heap.size → k ≠ b → w'.heap[k]? = w.heap[k]?
theorem Upon.refl (b : Nat) (w : World) : Upon b w w := ⟨Below.refl _ _, fun _ _ _ => rfl⟩
theorem Upon.size {b : Nat} {w w' : World} (h : Upon b w w') : w.heap.size ≤ w'.heap.size := h.1.size
theorem Upon.trans {b : Nat} {w w' w2 : World} (h : Upon b w w') (k : Upon b w' w2) : Upon b w w2 := ⟨h.1.trans k.1, fun i hi hb => (k.2 i (Nat.lt_of_lt_of_le hi h.size) hb).trans (h.2 i hi hb)⟩
theorem Upon.of_below {b : Nat} {w w' : World} (h : Below w.heap.size w w') : Upon b w w' := ⟨h.mono (Nat.zero_le _), fun k hk _ => h.block k hk⟩
theorem Upon.set {b : Nat} {w w' : World} (h : Upon b w w') (i : Nat) (v : Value) : Upon b w (w'.setCell ⟨b, i, none⟩ v) := ⟨h.1.setCell (Nat.zero_le _) v, fun k hk hb => (Below.heap_setCell _ _ _ _ hb).trans (h.2 k hk hb)⟩
theorem Upon.below {b B : Nat} {w w' : World} (h : Upon b w w') (h1 : B ≤ b) (h2 : B ≤ w.heap.size) : Below B w w' := ⟨h.1.os, h.1.tape, h.1.output, h.1.size, fun k hk => h.2 k (by omega) (by omega)⟩
theorem Upon.box {t : TypeId} {b k : Nat} {w w' : World} {c : Array Value} (h : Upon b w w') (hx : Box t w k c) (hk : k ≠ b) : Box t w' k c := (h.2 k hx.lt hk).trans hx
theorem Upon.cell {b : Nat} {w w' : World} (h : Upon b w w') {p : Addr} {v : Value} (hp : w.cell? p = some v) (hk : p.block ≠ b) : w'.cell? p = some v := (World.cell?_of_block (w := w) (h.2 p.block (block_lt_of_cell hp) hk)).trans hp
/-- a word whose bits of a mask are another's -/
def mixN (o x m : Nat) : Nat := (o &&& (18446744073709551615 - m)) ||| (x &&& m)
theorem and_lt (a b : Nat) (h : a < 18446744073709551616) : a &&& b < 18446744073709551616 := Nat.lt_of_le_of_lt Nat.and_le_left h
theorem or_lt (a b : Nat) (ha : a < 18446744073709551616) (hb : b < 18446744073709551616) : a ||| b < 18446744073709551616 := Nat.or_lt_two_pow (n := 64) ha hb
theorem mixN_lt (o x m : Nat) (ho : o < 18446744073709551616) (hx : x < 18446744073709551616) : mixN o x m < 18446744073709551616 := or_lt _ _ (and_lt _ _ ho) (and_lt _ _ hx)
theorem mix_bits (o x m : Nat) (ho : o < 18446744073709551616) (hx : x < 18446744073709551616) (hm : m < 18446744073709551616) : bits .or .u64 (bits .andNot .u64 (o : Int) (m : Int)) (bits .and .u64 (x : Int) (m : Int)) = ((mixN o x m : Nat) : Int) := by
  rw [u64_andNot_nat _ _ ho hm, bits_and_u64_nat _ _ hx hm, bits_or_u64_nat _ _ (and_lt _ _ ho) (and_lt _ _ hx)]; rfl
theorem taken_any (o x m : Nat) (ho : o < 18446744073709551616) (hx : x < 18446744073709551616) (hm : m < 18446744073709551616) (w : World) : Calls Try.prog 77 #[.int .u64 (o : Int), .int .u64 (x : Int), .int .u64 (m : Int)] w fun e w' => e = .returned (.int .u64 (mixN o x m : Nat)) ∧ w' = w := by
  have H : Hid _ := mix_bits o x m ho hx hm
  go_enter Try.func77, Try.ntmps77
  go_wp2
  go_ret
  exact ⟨by rw [← H.out]; rfl, rfl⟩
/-- the bits that mstatus takes of a word -/
def smask (x : Nat) : Nat := if getN x 11 2 = 2 then 8257962 else 8264106
theorem smask_lt (x : Nat) : smask x < 18446744073709551616 := by unfold smask; split <;> omega
theorem put_status : putA 8264106 11 2 0 = 8257962 := by decide +kernel
theorem smask_any (x : Nat) (hx : x < 18446744073709551616) (w : World) : Calls Try.prog 78 #[.int .u64 (x : Int)] w fun e w' => e = .returned (.int .u64 (smask x : Nat)) ∧ Below w.heap.size w w' := by
  have hg : ∀ V, Calls Try.prog 33 #[.int .u64 (x : Int), .int .i64 11, .int .i64 2] V fun e w' => e = .returned (.int .u64 (getN x 11 2 : Nat)) ∧ Below V.heap.size V w' := fun V => get_all x 11 2 hx V V (Below.refl _ _)
  have hp : ∀ V, Calls Try.prog 56 #[.int .u64 8264106, .int .i64 11, .int .i64 2, .int .u64 0] V fun e w' => e = .returned (.int .u64 8257962) ∧ w' = V := fun V => by
    have h := put_any 8264106 11 2 0 (by decide) V
    rw [put_status] at h
    exact h
  unfold smask
  generalize getN x 11 2 = g at *
  by_cases h : g = 2
  · subst h
    rw [if_pos rfl]
    go_enter Try.func78, Try.ntmps78
    go_wp2_with fail
    refine (hg _).mono ?_
    rintro e w1 ⟨rfl, hb1⟩
    go_wp2_with fail
    refine (hp _).mono ?_
    rintro e w2 ⟨rfl, rfl⟩
    go_wp2_with fail
    go_ret
    exact ⟨rfl, hb1⟩
  · rw [if_neg h]
    have h2 : ((g : Int) == 2) = false := by simp; omega
    have h3 : ¬ (g : Int) = 2 := by omega
    go_enter Try.func78, Try.ntmps78
    go_wp2_with fail
    refine (hg _).mono ?_
    rintro e w1 ⟨rfl, hb1⟩
    go_wp2_with fail
    go_ret
    exact ⟨rfl, hb1⟩
/-- what is kept of a vector -/
def vecN (o x : Nat) : Nat := if getN x 1 1 = 1 then o else x
theorem vec_any (o x : Nat) (hx : x < 18446744073709551616) (w : World) : Calls Try.prog 79 #[.int .u64 (o : Int), .int .u64 (x : Int)] w fun e w' => e = .returned (.int .u64 (vecN o x : Nat)) ∧ Below w.heap.size w w' := by
  have hg : ∀ V, Calls Try.prog 51 #[.int .u64 (x : Int), .int .i64 1] V fun e w' => e = .returned (.bool ((getN x 1 1 : Int) == 1)) ∧ Below V.heap.size V w' := fun V => bit_all x 1 hx V V (Below.refl _ _)
  unfold vecN
  generalize getN x 1 1 = g at *
  by_cases h : g = 1
  · subst h
    rw [if_pos rfl]
    go_enter Try.func79, Try.ntmps79
    go_wp2_with fail
    refine (hg _).mono ?_
    rintro e w1 ⟨rfl, hb1⟩
    go_wp2_with fail
    go_ret
    exact ⟨rfl, hb1⟩
  · rw [if_neg h]
    have h2 : ((g : Int) == 1) = false := by simp; omega
    rw [h2] at hg
    go_enter Try.func79, Try.ntmps79
    go_wp2_with fail
    refine (hg _).mono ?_
    rintro e w1 ⟨rfl, hb1⟩
    go_wp2_with fail
    go_ret
    exact ⟨rfl, hb1⟩
/-- what is kept of satp -/
def tabN (o x : Nat) : Nat := if getN x 60 4 = 0 ∨ getN x 60 4 = 8 then x else o
theorem tab_any (o x : Nat) (hx : x < 18446744073709551616) (w : World) : Calls Try.prog 80 #[.int .u64 (o : Int), .int .u64 (x : Int)] w fun e w' => e = .returned (.int .u64 (tabN o x : Nat)) ∧ Below w.heap.size w w' := by
  have hg : ∀ V, Calls Try.prog 33 #[.int .u64 (x : Int), .int .i64 60, .int .i64 4] V fun e w' => e = .returned (.int .u64 (getN x 60 4 : Nat)) ∧ Below V.heap.size V w' := fun V => get_all x 60 4 hx V V (Below.refl _ _)
  unfold tabN
  generalize getN x 60 4 = g at *
  by_cases h0 : g = 0
  · subst h0
    rw [if_pos (.inl rfl)]
    go_enter Try.func80, Try.ntmps80
    go_wp2_with fail
    refine (hg _).mono ?_
    rintro e w1 ⟨rfl, hb1⟩
    go_wp2_with fail
    go_ret
    exact ⟨rfl, hb1⟩
  · have h2 : ((g : Int) == 0) = false := by simp; omega
    have h3 : ¬ (g : Int) = 0 := by omega
    by_cases h8 : g = 8
    · subst h8
      rw [if_pos (.inr rfl)]
      clear h0 h2 h3
      go_enter Try.func80, Try.ntmps80
      go_wp2_with fail
      refine (hg _).mono ?_
      rintro e w1 ⟨rfl, hb1⟩
      go_wp2_with fail
      go_ret
      exact ⟨rfl, hb1⟩
    · rw [if_neg (by omega)]
      have h4 : ((g : Int) == 8) = false := by simp; omega
      have h5 : ¬ (g : Int) = 8 := by omega
      go_enter Try.func80, Try.ntmps80
      go_wp2_with fail
      refine (hg _).mono ?_
      rintro e w1 ⟨rfl, hb1⟩
      go_wp2_with fail
      go_ret
      exact ⟨rfl, hb1⟩
theorem size_box (t : TypeId) (w w' : World) (b : Nat) (c d : Array Value) (h : Box t w b c) : Box t (w.setRow b d) b d := setRow_heap w b c d t (0, 0) h
theorem upon_row {b : Nat} {w w' : World} (h : Upon b w w') (d : Array Value) : Upon b w (w'.setRow b d) := ⟨⟨h.1.os, h.1.tape, h.1.output, by rw [setRow_size]; exact h.1.size, fun k hk => absurd hk (Nat.not_lt_zero _)⟩, fun k hk hb => (setRow_other w' b k d hb).trans (h.2 k hk hb)⟩
theorem info49 : (Try.prog.info? 49).map (·.size) = some 23 := by kernel_rfl
theorem info52 : (Try.prog.info? 52).map (·.size) = some 23 := by kernel_rfl
theorem fileC_one (m : Int) (K : Nat → Nat) : (fileC m K).all (·.oneCell') = true := by simp [fileC, Value.oneCell']
theorem docC_one (m : Int) (K : Nat → Nat) : (docC m K).all (·.oneCell') = true := by simp [docC, Value.oneCell']
section
variable {w : World} {ops : Array Oper} {rest : List Oper} {o : Oper} {a : Act} {Q : Exit → Act → World → Prop}
/-- a store of a whole file into a box of its own -/
theorem wpList_store_file (hg : o.guard = none) (x y : Operand) (ho : o.op = .store 49 x y) (b : Nat) (m : Int) (K : Nat → Nat) (old : Array Value) (hx : a.eval x = .pointer (some ⟨b, 0, none⟩)) (hy : a.eval y = .agg (fileC m K)) (hb : Box 49 w b old) (hs : old.size = 23)
    (h : ∀ W, Box 49 W b (fileC m K) → Upon b w W → wpList Try.prog ops Q rest (a.put o.dst undef) W) : wpList Try.prog ops Q (o :: rest) a w :=
  wpList_store_row hg 49 x y ho b (fileC m K) hx hy 49 old hb info49 hs (fileC_one m K) (h _ (setRow_heap w b old _ 49 (0, 0) hb) (upon_row (Upon.refl _ _) _))
theorem wpList_store_doc (hg : o.guard = none) (x y : Operand) (ho : o.op = .store 52 x y) (b : Nat) (m : Int) (K : Nat → Nat) (old : Array Value) (hx : a.eval x = .pointer (some ⟨b, 0, none⟩)) (hy : a.eval y = .agg (docC m K)) (hb : Box 52 w b old) (hs : old.size = 23)
    (h : ∀ W, Box 52 W b (docC m K) → Upon b w W → wpList Try.prog ops Q rest (a.put o.dst undef) W) : wpList Try.prog ops Q (o :: rest) a w :=
  wpList_store_row hg 52 x y ho b (docC m K) hx hy 52 old hb info52 hs (docC_one m K) (h _ (setRow_heap w b old _ 52 (0, 0) hb) (upon_row (Upon.refl _ _) _))
end
theorem load_file {w : World} {b : Nat} {m : Int} {K : Nat → Nat} (h : Box 49 w b (fileC m K)) : (loadVar 49 ⟨b, 0, none⟩).run Try.prog w = .ok (.agg (fileC m K)) w := run_loadVar_row w b 49 49 _ (0, 0) _ h Try.underlying49 rfl info49
theorem load_doc {w : World} {b : Nat} {m : Int} {K : Nat → Nat} (h : Box 52 w b (docC m K)) : (loadVar 52 ⟨b, 0, none⟩).run Try.prog w = .ok (.agg (docC m K)) w := run_loadVar_row w b 52 52 _ (0, 0) _ h Try.underlying52 rfl info52
set_option maxRecDepth 100000 in
theorem begin_any (w : World) : Calls Try.prog 41 #[] w fun e w' => e = .returned (.agg (fileC 3 fun _ => 0)) ∧ Below w.heap.size w w' := by
  go_enter Try.func41, Try.ntmps41
  go_upto_region 1 with fail
  refine wp_region_list ?_
  refine wpList_build rfl _ _ rfl (by kernel_rfl) ?_
  refine wpList_store_file rfl _ _ rfl w.heap.size 3 (fun _ => 0) _ rfl (by kernel_rfl) (Box.new 49 w _) rfl ?_
  intro W hB hU
  have hX : Below w.heap.size w W := ((Below.refl _ _).alloc (Nat.le_refl _) _).trans (hU.below (Nat.le_refl _) (by simp))
  have HX : Hid (Below w.heap.size w W ∧ Box 49 W w.heap.size (fileC 3 fun _ => 0)) := ⟨hX, hB⟩
  clear hX hB hU
  go_wp2_with fail
  exact bodyPost_ret (v := .agg (fileC 3 fun _ => 0)) (results_cell_row rfl _ _ w.heap.size 49 _ (0, 0) _ rfl HX.out.2 Try.underlying49 rfl info49) rfl ⟨rfl, HX.out.1⟩
theorem set_fileC (m : Int) (K : Nat → Nat) (x : Nat) : (fileC m K).setIfInBounds 1 (.int .u64 (x : Int)) = fileC m (upd K 0 x) ∧ (fileC m K).setIfInBounds 5 (.int .u64 (x : Int)) = fileC m (upd K 1 x) ∧ (fileC m K).setIfInBounds 6 (.int .u64 (x : Int)) = fileC m (upd K 2 x) ∧ (fileC m K).setIfInBounds 2 (.int .u64 (x : Int)) = fileC m (upd K 3 x) ∧ (fileC m K).setIfInBounds 3 (.int .u64 (x : Int)) = fileC m (upd K 4 x) ∧ (fileC m K).setIfInBounds 4 (.int .u64 (x : Int)) = fileC m (upd K 5 x) ∧ (fileC m K).setIfInBounds 7 (.int .u64 (x : Int)) = fileC m (upd K 6 x) ∧ (fileC m K).setIfInBounds 8 (.int .u64 (x : Int)) = fileC m (upd K 7 x) ∧ (fileC m K).setIfInBounds 9 (.int .u64 (x : Int)) = fileC m (upd K 8 x) ∧ (fileC m K).setIfInBounds 10 (.int .u64 (x : Int)) = fileC m (upd K 9 x) ∧ (fileC m K).setIfInBounds 11 (.int .u64 (x : Int)) = fileC m (upd K 10 x) ∧ (fileC m K).setIfInBounds 12 (.int .u64 (x : Int)) = fileC m (upd K 11 x) ∧ (fileC m K).setIfInBounds 13 (.int .u64 (x : Int)) = fileC m (upd K 12 x) ∧ (fileC m K).setIfInBounds 14 (.int .u64 (x : Int)) = fileC m (upd K 13 x) ∧ (fileC m K).setIfInBounds 15 (.int .u64 (x : Int)) = fileC m (upd K 14 x) ∧ (fileC m K).setIfInBounds 16 (.int .u64 (x : Int)) = fileC m (upd K 15 x) ∧ (fileC m K).setIfInBounds 17 (.int .u64 (x : Int)) = fileC m (upd K 16 x) ∧ (fileC m K).setIfInBounds 18 (.int .u64 (x : Int)) = fileC m (upd K 17 x) ∧ (fileC m K).setIfInBounds 19 (.int .u64 (x : Int)) = fileC m (upd K 18 x) ∧ (fileC m K).setIfInBounds 20 (.int .u64 (x : Int)) = fileC m (upd K 19 x) ∧ (fileC m K).setIfInBounds 21 (.int .u64 (x : Int)) = fileC m (upd K 20 x) ∧ (fileC m K).setIfInBounds 22 (.int .u64 (x : Int)) = fileC m (upd K 21 x) := by
  refine ⟨rfl, rfl, rfl, rfl, rfl, rfl, rfl, rfl, rfl, rfl, rfl, rfl, rfl, rfl, rfl, rfl, rfl, rfl, rfl, rfl, rfl, rfl⟩
theorem set_docC (m : Int) (K : Nat → Nat) (x : Nat) : (docC m K).setIfInBounds 1 (.int .u64 (x : Int)) = docC m (upd K 0 x) ∧ (docC m K).setIfInBounds 2 (.int .u64 (x : Int)) = docC m (upd K 1 x) ∧ (docC m K).setIfInBounds 3 (.int .u64 (x : Int)) = docC m (upd K 2 x) ∧ (docC m K).setIfInBounds 4 (.int .u64 (x : Int)) = docC m (upd K 3 x) ∧ (docC m K).setIfInBounds 5 (.int .u64 (x : Int)) = docC m (upd K 4 x) ∧ (docC m K).setIfInBounds 6 (.int .u64 (x : Int)) = docC m (upd K 5 x) ∧ (docC m K).setIfInBounds 7 (.int .u64 (x : Int)) = docC m (upd K 6 x) ∧ (docC m K).setIfInBounds 8 (.int .u64 (x : Int)) = docC m (upd K 7 x) ∧ (docC m K).setIfInBounds 9 (.int .u64 (x : Int)) = docC m (upd K 8 x) ∧ (docC m K).setIfInBounds 10 (.int .u64 (x : Int)) = docC m (upd K 9 x) ∧ (docC m K).setIfInBounds 11 (.int .u64 (x : Int)) = docC m (upd K 10 x) ∧ (docC m K).setIfInBounds 12 (.int .u64 (x : Int)) = docC m (upd K 11 x) ∧ (docC m K).setIfInBounds 13 (.int .u64 (x : Int)) = docC m (upd K 12 x) ∧ (docC m K).setIfInBounds 14 (.int .u64 (x : Int)) = docC m (upd K 13 x) ∧ (docC m K).setIfInBounds 15 (.int .u64 (x : Int)) = docC m (upd K 14 x) ∧ (docC m K).setIfInBounds 16 (.int .u64 (x : Int)) = docC m (upd K 15 x) ∧ (docC m K).setIfInBounds 17 (.int .u64 (x : Int)) = docC m (upd K 16 x) ∧ (docC m K).setIfInBounds 18 (.int .u64 (x : Int)) = docC m (upd K 17 x) ∧ (docC m K).setIfInBounds 19 (.int .u64 (x : Int)) = docC m (upd K 18 x) ∧ (docC m K).setIfInBounds 20 (.int .u64 (x : Int)) = docC m (upd K 19 x) ∧ (docC m K).setIfInBounds 21 (.int .u64 (x : Int)) = docC m (upd K 20 x) ∧ (docC m K).setIfInBounds 22 (.int .u64 (x : Int)) = docC m (upd K 21 x) := by
  refine ⟨rfl, rfl, rfl, rfl, rfl, rfl, rfl, rfl, rfl, rfl, rfl, rfl, rfl, rfl, rfl, rfl, rfl, rfl, rfl, rfl, rfl, rfl⟩
theorem mode_fileC (m k : Int) (K : Nat → Nat) : (fileC m K).setIfInBounds 0 (.int .i64 k) = fileC k K := rfl
theorem mode_docC (m k : Int) (K : Nat → Nat) : (docC m K).setIfInBounds 0 (.int .i64 k) = docC k K := rfl
end Go.Proofs.Ytalgidnmmghejaa.E
