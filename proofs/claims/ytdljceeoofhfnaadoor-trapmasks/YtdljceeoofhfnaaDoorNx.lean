/- The program's table order; the calls first of both sides, of layer 9. -/
import Derived.Test.YtdljceeoofhfnaaDoorOt
import Derived.Test.YtdljceeoofhfnaaDoorDt
import Derived.ProofKit
import Derived.OpenShut
import Derived.Lib.LaidTab
import Derived.LaidMore
import Derived.Deep.Slices
namespace Go.Proofs.YtdljceeoofhfnaaDoor
open Go.RowKit Go.Maps
set_option linter.unusedVariables false
set_option linter.unusedSimpArgs false
set_option maxRecDepth 100000
open Go.ChangeShapes Go.WideShapes Go.ChangeAt
def ordL : List Int := [11, 3, 7, 9, 1, 5]
def ordC : Array Value := #[.int .i64 11, .int .i64 3, .int .i64 7, .int .i64 9, .int .i64 1, .int .i64 5]
def oN (i : Nat) : Nat := [11, 3, 7, 9, 1, 5].getD i 0
theorem gOrd : Tryd.prog.globalNamed "vireo/trap.order" = some 0 := by kernel_rfl
/-- the order lies where its variable is -/
def Ord (w : World) : Prop := ∃ t fr, w.heap[0]? = some (.cells ordC t fr)
theorem Ord.lt {w : World} (h : Ord w) : 0 < w.heap.size := by obtain ⟨t, fr, h⟩ := h; exact (Array.getElem?_eq_some_iff.1 h).1
theorem Ord.below {w w' : World} (h : Ord w) (hb : Below w.heap.size w w') : Ord w' := by
  have h0 := h.lt
  obtain ⟨t, fr, h⟩ := h
  exact ⟨t, fr, (hb.block 0 h0).trans h⟩
theorem Ord.upon {b : Nat} {w w' : World} (h : Ord w) (hb : Upon b w w') (hn : b ≠ 0) : Ord w' := by
  have h0 := h.lt
  obtain ⟨t, fr, h⟩ := h
  exact ⟨t, fr, (hb.2 0 h0 (fun e => hn e.symm)).trans h⟩
theorem ord_of {W : World} {rest : List (String × DataW Unit)} (h : laidMet Tryd.prog (("vireo/trap.order", Lib.tabData .i64 ordL) :: rest) W) : Ord W := by
  have hv : W.var? Tryd.prog "vireo/trap.order" = some ordC := Lib.tabIs_of_head (k := .i64) (zs := ordL) gOrd (show (Tryd.prog.globals[0]?).map (·.type) = some 69 by kernel_rfl) Tryd.underlying69 Tryd.underlying3 (by kernel_rfl) (by kernel_rfl) h
  unfold World.var? at hv
  rw [gOrd] at hv
  simp only [Option.bind_some] at hv
  split at hv
  · rename_i cs t fr he
    cases hv
    exact ⟨t, fr, he⟩
  · cases hv
theorem info69 : (Tryd.prog.info? 69).map (·.size) = some ordC.size := by kernel_rfl
theorem ord_0 (w : World) : (Instr.index 69 (.agg ordC) (.int .i64 (0 : Nat))).run Tryd.prog w = .ok (.int .i64 (oN 0 : Nat)) w := by kernel_rfl
theorem ord_1 (w : World) : (Instr.index 69 (.agg ordC) (.int .i64 (1 : Nat))).run Tryd.prog w = .ok (.int .i64 (oN 1 : Nat)) w := by kernel_rfl
theorem ord_2 (w : World) : (Instr.index 69 (.agg ordC) (.int .i64 (2 : Nat))).run Tryd.prog w = .ok (.int .i64 (oN 2 : Nat)) w := by kernel_rfl
theorem ord_3 (w : World) : (Instr.index 69 (.agg ordC) (.int .i64 (3 : Nat))).run Tryd.prog w = .ok (.int .i64 (oN 3 : Nat)) w := by kernel_rfl
theorem ord_4 (w : World) : (Instr.index 69 (.agg ordC) (.int .i64 (4 : Nat))).run Tryd.prog w = .ok (.int .i64 (oN 4 : Nat)) w := by kernel_rfl
theorem ord_5 (w : World) : (Instr.index 69 (.agg ordC) (.int .i64 (5 : Nat))).run Tryd.prog w = .ok (.int .i64 (oN 5 : Nat)) w := by kernel_rfl
theorem ord_at (k : Nat) (hk : k < 6) (w : World) : (Instr.index 69 (.agg ordC) (.int .i64 (k : Int))).run Tryd.prog w = .ok (.int .i64 (oN k : Nat)) w := by
  match k, hk with
  | 0, _ => exact ord_0 w
  | 1, _ => exact ord_1 w
  | 2, _ => exact ord_2 w
  | 3, _ => exact ord_3 w
  | 4, _ => exact ord_4 w
  | 5, _ => exact ord_5 w
  | q + 6, h => exact absurd h (by omega)
/-- of a word the first interrupt; 0: none -/
def firstN (x : Nat) : Nat := if bitB x 11 = true then 11 else if bitB x 3 = true then 3 else if bitB x 7 = true then 7 else if bitB x 9 = true then 9 else if bitB x 1 = true then 1 else if bitB x 5 = true then 5 else 0
theorem first_hit (x k : Nat) (hk : k < 6) (h : ∀ j, j < k → bitB x (oN j) = false) (hb : bitB x (oN k) = true) : firstN x = oN k := by
  match k, hk with
  | 0, _ =>
    have hh : bitB x 11 = true := hb
    unfold firstN
    simp [hh]
    rfl
  | 1, _ =>
    have h0 : bitB x 11 = false := h 0 (by omega)
    have hh : bitB x 3 = true := hb
    unfold firstN
    simp [h0, hh]
    rfl
  | 2, _ =>
    have h0 : bitB x 11 = false := h 0 (by omega)
    have h1 : bitB x 3 = false := h 1 (by omega)
    have hh : bitB x 7 = true := hb
    unfold firstN
    simp [h0, h1, hh]
    rfl
  | 3, _ =>
    have h0 : bitB x 11 = false := h 0 (by omega)
    have h1 : bitB x 3 = false := h 1 (by omega)
    have h2 : bitB x 7 = false := h 2 (by omega)
    have hh : bitB x 9 = true := hb
    unfold firstN
    simp [h0, h1, h2, hh]
    rfl
  | 4, _ =>
    have h0 : bitB x 11 = false := h 0 (by omega)
    have h1 : bitB x 3 = false := h 1 (by omega)
    have h2 : bitB x 7 = false := h 2 (by omega)
    have h3 : bitB x 9 = false := h 3 (by omega)
    have hh : bitB x 1 = true := hb
    unfold firstN
    simp [h0, h1, h2, h3, hh]
    rfl
  | 5, _ =>
    have h0 : bitB x 11 = false := h 0 (by omega)
    have h1 : bitB x 3 = false := h 1 (by omega)
    have h2 : bitB x 7 = false := h 2 (by omega)
    have h3 : bitB x 9 = false := h 3 (by omega)
    have h4 : bitB x 1 = false := h 4 (by omega)
    have hh : bitB x 5 = true := hb
    unfold firstN
    simp [h0, h1, h2, h3, h4, hh]
    rfl
  | q + 6, h => exact absurd h (by omega)
theorem first_none (x : Nat) (h : ∀ j, j < 6 → bitB x (oN j) = false) : firstN x = 0 := by
  have h0 : bitB x 11 = false := h 0 (by omega)
  have h1 : bitB x 3 = false := h 1 (by omega)
  have h2 : bitB x 7 = false := h 2 (by omega)
  have h3 : bitB x 9 = false := h 3 (by omega)
  have h4 : bitB x 1 = false := h 4 (by omega)
  have h5 : bitB x 5 = false := h 5 (by omega)
  unfold firstN
  simp [h0, h1, h2, h3, h4, h5]
theorem oN_range : ∀ k, k < 6 → 0 < oN k ∧ oN k < 64 := by decide
theorem first_lt (x : Nat) : firstN x < 64 := by unfold firstN; repeat (first | omega | split)
theorem first_bit (x : Nat) (h : firstN x ≠ 0) : bitB x (firstN x : Nat) = true := by
  unfold firstN at h ⊢
  by_cases a11 : bitB x 11 = true
  · rw [if_pos a11]; exact a11
  rw [if_neg a11] at h ⊢
  by_cases a3 : bitB x 3 = true
  · rw [if_pos a3]; exact a3
  rw [if_neg a3] at h ⊢
  by_cases a7 : bitB x 7 = true
  · rw [if_pos a7]; exact a7
  rw [if_neg a7] at h ⊢
  by_cases a9 : bitB x 9 = true
  · rw [if_pos a9]; exact a9
  rw [if_neg a9] at h ⊢
  by_cases a1 : bitB x 1 = true
  · rw [if_pos a1]; exact a1
  rw [if_neg a1] at h ⊢
  by_cases a5 : bitB x 5 = true
  · rw [if_pos a5]; exact a5
  rw [if_neg a5] at h ⊢
  exact absurd rfl h
def nzB (n : Nat) : Bool := decide (n ≠ 0)
section
variable {w : World} {ops : Array Oper} {rest : List Oper} {o : Oper} {a : Act} {Q : Exit → Act → World → Prop}
def zeroT : Array Value := trapC 0 0 false
theorem infoz36 : (Tryd.prog.info? 36).map (fun i => (i.zero, i.size)) = some (some (.agg zeroT), 3) := by kernel_rfl
theorem run_alloc36 (w : World) : (Instr.alloc 36 true (.tuple #[])).run Tryd.prog w = .ok (.pointer (some ⟨w.heap.size, 0, none⟩)) (w.alloc (.cells zeroT 36)) := by
  have h := infoz36
  cases hq : Tryd.prog.info? 36 with
  | none => simp [hq] at h
  | some i =>
    have hz : i.zero = some (.agg zeroT) := by simp [hq] at h; exact h.1
    simp [Instr.alloc, zeroValue, typeInfo, hq, hz, newVar, newRow, Value.cells]
theorem wpList_alloc_trap (hg : o.guard = none) (hop : o.op = Op.alloc 36) (h : ∀ W, W = w.alloc (.cells zeroT 36) → wpList Tryd.prog ops Q rest (a.put o.dst (.pointer (some ⟨w.heap.size, 0, none⟩))) W) : wpList Tryd.prog ops Q (o :: rest) a w := by
  refine wpList_plain hg fun K hK => ?_
  unfold Oper.wp
  simp [execOp, hop, run_alloc36 w, Result.andThen]
  exact hK _ _ (h _ rfl)
theorem trapC_one (c v : Nat) (i : Bool) : (trapC c v i).all (·.oneCell') = true := by simp [trapC, Value.oneCell']
theorem wpList_store_trap (hg : o.guard = none) (x y : Operand) (ho : o.op = .store 36 x y) (b c v : Nat) (i : Bool) (old : Array Value) (hx : a.eval x = .pointer (some ⟨b, 0, none⟩)) (hy : a.eval y = .agg (trapC c v i)) (hb : Box 36 w b old) (hs : old.size = 3)
    (h : ∀ W, Box 36 W b (trapC c v i) → Upon b w W → wpList Tryd.prog ops Q rest (a.put o.dst undef) W) : wpList Tryd.prog ops Q (o :: rest) a w :=
  wpList_store_row hg 36 x y ho b (trapC c v i) hx hy 36 old hb info36 hs (trapC_one c v i) (h _ (setRow_heap w b old _ 36 (0, 0) hb) (upon_row (Upon.refl _ _) _))
end
theorem resultsT2 {fn : Func} {p t : Tmp} (h : fn.results = #[.cell p 36, .tmp t]) (tmps : Array Value) (w : World) (b c v : Nat) (i : Bool)
    (hp : tmps.getD p undef = .pointer (some ⟨b, 0, none⟩)) (h1 : Box 36 w b (trapC c v i)) :
    (results fn tmps).run Tryd.prog w = .ok (.tuple #[.agg (trapC c v i), tmps.getD t undef]) w := by
  have hp' : tmps[p]?.getD undef = .pointer (some ⟨b, 0, none⟩) := by simpa using hp
  simp [results, h, hp', asAddr, load_trap h1]
/-- what a call tells that tells a trap, or none -/
def tellT (n : Nat) : Value := .tuple #[.agg (trapC n 0 (nzB n)), .bool (nzB n)]
/-- a result's own box -/
def Tz (w W : World) : Prop := Box 36 W w.heap.size zeroT ∧ Below w.heap.size w W
theorem Tz.step {w W W' : World} (h : Tz w W) (hb : Below W.heap.size W W') : Tz w W' := ⟨h.1.step hb, h.2.trans (hb.mono h.2.size)⟩
theorem zT_size : zeroT.size = 3 := rfl
theorem tell_some (n : Nat) (h : n ≠ 0) : Ending.returned (.tuple #[.agg (trapC n 0 true), .bool true]) = .returned (tellT n) := by unfold tellT nzB; rw [decide_eq_true h]
theorem tell_none : Ending.returned (.tuple #[.agg (trapC 0 0 false), .bool false]) = .returned (tellT 0) := rfl
set_option maxHeartbeats 2000000 in
theorem first_any (x : Nat) (hx : x < 18446744073709551616) (w : World) (hO : Ord w) : Calls Tryd.prog 19 #[.int .u64 (x : Int)] w fun e w' => e = .returned (tellT (firstN x)) ∧ Below w.heap.size w w' := by
  have hb0 : Below w.heap.size w (w.alloc (.cells #[.int .i64 0, .int .u64 0, .bool false] 36)) := (Below.refl _ _).alloc (Nat.le_refl _) _
  have X0 : Hid (Tz w (w.alloc (.cells #[.int .i64 0, .int .u64 0, .bool false] 36))) := ⟨Box.new _ _ _, hb0⟩
  have HO := hO.below hb0
  obtain ⟨t, fr, HO⟩ := HO
  have HR : Hid ((w.alloc (.cells #[.int .i64 0, .int .u64 0, .bool false] 36)).heap[0]? = some (.cells ordC t fr)) := HO
  have HBT : Hid (∀ j V, Calls Tryd.prog 23 #[.int .u64 (x : Int), .int .i64 j] V fun e w' => e = .returned (.bool (bitB x j)) ∧ Below V.heap.size V w') := fun j V => bit_all x j hx V V (Below.refl _ _)
  clear HO hO hx hb0
  go_enter Tryd.func19, Tryd.ntmps19
  go_upto_region 1 with fail
  generalize w.alloc (.cells #[.int .i64 0, .int .u64 0, .bool false] 36) = W at *
  refine wp_region_list ?_
  refine wpList_load_row rfl 69 _ rfl 0 rfl t ordC fr _ HR.out Tryd.underlying69 rfl info69 ?_
  generalize hrg : Value.agg ordC = rg
  have HRG : Hid (Value.agg ordC = rg) := hrg
  clear hrg
  go_wp2_with fail
  go_loopw [5, 7] (fun r i wr => ∃ k : Nat, k ≤ 6 ∧ i = .int .i64 k ∧ Hid (Tz w wr) ∧ Hid (∀ j, j < k → bitB x (oN j) = false)) (fun _ i _ => 6 - (intOf i).toNat)
  case atStart => exact ⟨0, by omega, rfl, X0.out, fun j hj => absurd hj (Nat.not_lt_zero _)⟩
  case round =>
    obtain ⟨k, hk, rfl, HZ, HN⟩ := hrel
    clear X0
    by_cases hlt : k < 6
    · have hlt1 : (k : Int) < 6 := by omega
      have hidx : ∀ V, (Instr.index 69 rg (.int .i64 (k : Int))).run Tryd.prog V = .ok (.int .i64 (oN k : Nat)) V := fun V => by rw [← HRG.out]; exact ord_at k hlt V
      have HH : Hid (bitB x (oN k) = true → firstN x = oN k ∧ oN k ≠ 0) := fun h => ⟨first_hit x k hlt HN.out h, by have := oN_range k hlt; omega⟩
      have HM : Hid (bitB x (oN k) = false → ∀ j, j < k + 1 → bitB x (oN j) = false) := fun h j hj => by
        by_cases e : j = k
        · subst e; exact h
        · exact HN.out j (by omega)
      have HB1 := HBT.out (oN k)
      generalize bitB x (oN k) = bt at *
      generalize oN k = c at *
      go_wp2_with fail
      refine (HB1 _).mono ?_
      rintro e w1 ⟨rfl, hb1⟩
      have X1 : Hid (Tz w w1) := HZ.out.step hb1
      clear hb1
      cases bt
      · go_wp2_with fail
        go_roundw
        case rel => exact ⟨k + 1, by omega, by go_num, X1.out, HM.out (by first | rfl | trivial)⟩
        case measure => simp [intOf]; omega
      · have HC := HH.out (by first | rfl | trivial)
        have HCC : Hid (firstN x = c ∧ c ≠ 0) := HC
        clear HC
        go_upto_region 5 with fail
        refine wp_region_list ?_
        (refine wpList_step (fun KK hKK => ?_); go_simp; refine hKK _ _ ?_; clear hKK KK)
        (refine wpList_step (fun KK hKK => ?_); go_simp; refine hKK _ _ ?_; clear hKK KK)
        refine wpList_store_trap rfl _ _ rfl w.heap.size c 0 true zeroT rfl rfl X1.out.1 zT_size ?_
        intro W9 B9 U9
        have T9 : Hid (Box 36 W9 w.heap.size (trapC c 0 true) ∧ Below w.heap.size w W9) := ⟨B9, X1.out.2.trans (U9.below (Nat.le_refl _) X1.out.2.size)⟩
        clear B9 U9
        go_wp2_with fail
        exact bodyPost_ret (v := .tuple #[.agg (trapC c 0 true), .bool true]) (resultsT2 (p := 2) (t := 3) rfl _ _ w.heap.size c 0 true rfl T9.out.1) rfl ⟨by rw [HCC.out.1]; exact tell_some c HCC.out.2, T9.out.2⟩
    · obtain rfl : k = 6 := by omega
      have HF : Hid (firstN x = 0) := first_none x HN.out
      go_upto_region 7 with fail
      refine wp_region_list ?_
      (refine wpList_step (fun KK hKK => ?_); go_simp; refine hKK _ _ ?_; clear hKK KK)
      refine wpList_store_trap rfl _ _ rfl w.heap.size 0 0 false zeroT rfl rfl HZ.out.1 zT_size ?_
      intro W9 B9 U9
      have T9 : Hid (Box 36 W9 w.heap.size (trapC 0 0 false) ∧ Below w.heap.size w W9) := ⟨B9, HZ.out.2.trans (U9.below (Nat.le_refl _) HZ.out.2.size)⟩
      clear B9 U9
      go_wp2_with fail
      exact bodyPost_ret (v := .tuple #[.agg (trapC 0 0 false), .bool false]) (resultsT2 (p := 2) (t := 3) rfl _ _ w.heap.size 0 0 false rfl T9.out.1) rfl ⟨by rw [HF.out]; exact tell_none, T9.out.2⟩
/-- the document's: -1 is none -/
def dfN (n : Nat) : Int := if n = 0 then -1 else (n : Int)
theorem dcells (w : World) (k : Nat) (hk : k < 6) : (w.alloc (.cells #[.int .i64 11, .int .i64 3, .int .i64 7, .int .i64 9, .int .i64 1, .int .i64 5] 3)).cell? ⟨w.heap.size, k, none⟩ = some (.int .i64 (oN k : Nat)) := by
  match k, hk with
  | 0, _ => exact (Box.new 3 w _).cell 0 _ rfl
  | 1, _ => exact (Box.new 3 w _).cell 1 _ rfl
  | 2, _ => exact (Box.new 3 w _).cell 2 _ rfl
  | 3, _ => exact (Box.new 3 w _).cell 3 _ rfl
  | 4, _ => exact (Box.new 3 w _).cell 4 _ rfl
  | 5, _ => exact (Box.new 3 w _).cell 5 _ rfl
  | q + 6, h => exact absurd h (by omega)
set_option maxHeartbeats 2000000 in
theorem dfirst_any (x : Nat) (hx : x < 18446744073709551616) (w : World) : Calls Tryd.prog 21 #[.int .u64 (x : Int)] w fun e w' => e = .returned (.int .i64 (dfN (firstN x))) ∧ Below w.heap.size w w' := by
  have hb0 : Below w.heap.size w (w.alloc (.cells #[.int .i64 11, .int .i64 3, .int .i64 7, .int .i64 9, .int .i64 1, .int .i64 5] 3)) := (Below.refl _ _).alloc (Nat.le_refl _) _
  have X0 : Hid (Below w.heap.size w (w.alloc (.cells #[.int .i64 11, .int .i64 3, .int .i64 7, .int .i64 9, .int .i64 1, .int .i64 5] 3)) ∧ ∀ k, k < 6 → (w.alloc (.cells #[.int .i64 11, .int .i64 3, .int .i64 7, .int .i64 9, .int .i64 1, .int .i64 5] 3)).cell? ⟨w.heap.size, k, none⟩ = some (.int .i64 (oN k : Nat))) := ⟨hb0, dcells w⟩
  have HG : Hid (∀ j V, Calls Tryd.prog 31 #[.int .u64 (x : Int), .int .i64 j, .int .i64 1] V fun e w' => e = .returned (.int .u64 (getN x j 1 : Nat)) ∧ Below V.heap.size V w') := fun j V => rget_all x j 1 hx V V (Below.refl _ _)
  clear hb0 hx
  go_enter Tryd.func21, Tryd.ntmps21
  go_upto_region 2 with fail
  generalize (w.alloc (.cells #[.int .i64 11, .int .i64 3, .int .i64 7, .int .i64 9, .int .i64 1, .int .i64 5] 3)) = W at *
  go_wp2_with fail
  go_loopw [4] (fun i wr => ∃ k : Nat, k ≤ 6 ∧ i = .int .i64 k ∧ Hid (Below w.heap.size w wr ∧ ∀ k, k < 6 → wr.cell? ⟨w.heap.size, k, none⟩ = some (.int .i64 (oN k : Nat))) ∧ Hid (∀ j, j < k → bitB x (oN j) = false)) (fun i _ => 6 - (intOf i).toNat)
  case atStart => exact ⟨0, by omega, rfl, X0.out, fun j hj => absurd hj (Nat.not_lt_zero _)⟩
  case round =>
    obtain ⟨k, hk, rfl, HZ, HN⟩ := hrel
    clear X0
    by_cases hlt : k < 6
    · have hlt1 : (k : Int) < 6 := by omega
      have hc := HZ.out.2 k hlt
      have HH : Hid (bitB x (oN k) = true → firstN x = oN k ∧ oN k ≠ 0) := fun h => ⟨first_hit x k hlt HN.out h, by have := oN_range k hlt; omega⟩
      have HM : Hid (bitB x (oN k) = false → ∀ j, j < k + 1 → bitB x (oN j) = false) := fun h j hj => by
        by_cases e : j = k
        · subst e; exact h
        · exact HN.out j (by omega)
      have HB1 := HG.out (oN k)
      have hbv : bitB x (oN k) = ((getN x (oN k : Nat) 1 : Int) == 1) := rfl
      have HW : Hid (∀ V, Below wr.heap.size wr V → Below w.heap.size w V ∧ ∀ k, k < 6 → V.cell? ⟨w.heap.size, k, none⟩ = some (.int .i64 (oN k : Nat))) := fun V hV => ⟨HZ.out.1.trans (hV.mono HZ.out.1.size), fun k hk => (hV.cell (p := ⟨w.heap.size, k, none⟩) (block_lt_of_cell (HZ.out.2 k hk))).trans (HZ.out.2 k hk)⟩
      by_cases hg : getN x (oN k : Nat) 1 = 1
      · have hbt : bitB x (oN k) = true := by rw [hbv, hg]; rfl
        have HC : Hid (firstN x = oN k ∧ oN k ≠ 0) := HH.out hbt
        have HC2 : Hid (∀ V, Below wr.heap.size wr V → V.cell? ⟨w.heap.size, k, none⟩ = some (.int .i64 (oN k : Nat))) := fun V hV => (HW.out V hV).2 k hlt
        rw [hg] at HB1
        clear hg hbt hbv HH HM HW
        generalize oN k = c at *
        go_wp2_with fail
        refine (HB1 _).mono ?_
        rintro e w1 ⟨rfl, hb1⟩
        have hc1 := HC2.out _ hb1
        have HF : Hid (Below w.heap.size w w1) := HZ.out.1.trans (hb1.mono HZ.out.1.size)
        clear hb1 hc
        go_wp2_with fail
        go_ret
        exact ⟨by rw [HC.out.1]; unfold dfN; rw [if_neg HC.out.2]; rfl, HF.out⟩
      · have hbt : bitB x (oN k) = false := by rw [hbv]; simp; omega
        have HC : Hid (∀ j, j < k + 1 → bitB x (oN j) = false) := HM.out hbt
        clear hbt hbv HH HM
        have hg1 : ((getN x (oN k : Nat) 1 : Int) == 1) = false := by simp; omega
        have hg2 : ¬ (getN x (oN k : Nat) 1 : Int) = 1 := by omega
        clear hg
        generalize getN x (oN k : Nat) 1 = gv at *
        generalize oN k = c at *
        go_wp2_with fail
        refine (HB1 _).mono ?_
        rintro e w1 ⟨rfl, hb1⟩
        have X1 : Hid (Below w.heap.size w w1 ∧ ∀ k, k < 6 → w1.cell? ⟨w.heap.size, k, none⟩ = some (.int .i64 (oN k : Nat))) := HW.out _ hb1
        clear hb1 hc
        go_wp2_with fail
        go_roundw
        case rel => exact ⟨k + 1, by omega, by go_num, X1.out, HC.out⟩
        case measure => simp [intOf]; omega
    · obtain rfl : k = 6 := by omega
      have HF : Hid (firstN x = 0) := first_none x HN.out
      go_wp2_with fail
      go_ret
      exact ⟨by rw [HF.out]; rfl, HZ.out.1⟩
end Go.Proofs.YtdljceeoofhfnaaDoor
