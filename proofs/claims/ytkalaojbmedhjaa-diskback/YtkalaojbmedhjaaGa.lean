/- The ground: pieces, rows of bytes, boxes. -/
import Derived.Test.YtkalaojbmedhjaaRows
import Derived.WalkKit
import Derived.WalkSpells
import Derived.WalkLawsBesides
import Derived.OpenShut
import Derived.Deep.QuietTactic
import Derived.BigQuiet
import Derived.Outline
import Derived.Maps.OwnSet
import Derived.Maps.RangeWalk
import Derived.Maps.Ext
import Derived.Lib.SlMapEqual
import Derived.Laws.CopyOwn
import Derived.Deep.RegionLaw
import Derived.BigRegion
import Derived.Deep.AppendSrc
import Derived.Laws.Tables
import Derived.Laws.Rows
import Derived.ChangeKeysEq
import Derived.Laws.StructEq
import Derived.Laws.NewBlocks
import Derived.Deep.DeepCutAuto
import Derived.Deep.CutBlock
import Derived.Deep.RegionWith
import Derived.Deep.RegionHeld3
namespace Go.Proofs.Ytkalaojbmedhjaa
open Go.RowKit Go.Maps
set_option linter.unusedVariables false
set_option linter.unusedSimpArgs false
set_option maxRecDepth 100000
theorem ret_bool {a b : Bool} (h : a = b) : Ending.returned (.bool a) = .returned (.bool b) := by rw [h]
theorem ret_int {k : IntKind} {a b : Int} (h : a = b) : Ending.returned (.int k a) = .returned (.int k b) := by rw [h]
theorem wrap_u64 (x : Int) : IntKind.u64.wrap x = x % 18446744073709551616 := by simp [IntKind.wrap, IntKind.signed, IntKind.bits]
/-- a piece lies in another one, by numbers that have no end -/
def inB (a n b s : Int) : Bool := decide (b ≤ a ∧ a + n ≤ b + s)
theorem within_any (a n b s : Int) (ha : 0 ≤ a ∧ a ≤ 18446744073709551615) (hn : 0 ≤ n ∧ n ≤ 18446744073709551615) (hb : 0 ≤ b ∧ b ≤ 18446744073709551615) (hs : 0 ≤ s ∧ s ≤ 18446744073709551615) (w : World) :
    Calls Try.prog 41 #[.int .u64 a, .int .u64 n, .int .u64 b, .int .u64 s] w fun e w' => e = .returned (.bool (inB a n b s)) ∧ w' = w := by
  go_enter Try.func41, Try.ntmps41
  go_wp2
  all_goals (go_ret; exact ⟨ret_bool (by rw [Bool.eq_iff_iff]; simp [inB]; try omega), rfl⟩)
theorem grow_step {B : Nat} {w wr w1 : World} {o : Obj} {e : TypeId} {size n : Nat} {v : Value} {xs : List Value} (hb : Below B w wr) (hB : B ≤ wr.heap.size) (hown : wr.ownsRow B e size v n xs) (hg : (wr.alloc o).grownBy w1 v.ownBlock) : Below B w w1 :=
  Below.grown (hb.alloc hB o) hg (by simp; omega) (fun j hj => (hown.lt j hj).1)
theorem Try.info5 : (Try.prog.info? 5).map (fun i => (i.zero, i.size, i.bytes)) = some (some (.int .u8 0), 1, 1) := by kernel_rfl
/-- the first n numbers of a function, as cells of a kind -/
def rowK (k : IntKind) (f : Nat → Nat) (n : Nat) : List Value := (List.range n).map fun i => Value.int k ((f i : Nat) : Int)
theorem rowK_succ (k : IntKind) (f : Nat → Nat) (n : Nat) : rowK k f (n + 1) = rowK k f n ++ [Value.int k ((f n : Nat) : Int)] := by
  simp [rowK, List.range_succ]
theorem rowK_get (k : IntKind) (f : Nat → Nat) (n i : Nat) (h : i < n) : (rowK k f n)[i]? = some (Value.int k ((f i : Nat) : Int)) := by
  simp [rowK, h]
theorem rowK_congr (k : IntKind) (f g : Nat → Nat) (n : Nat) (h : ∀ i, i < n → f i = g i) : rowK k f n = rowK k g n := by
  unfold rowK
  apply List.map_congr_left
  intro i hi
  rw [h i (by simpa using hi)]
theorem rowK_zero (k : IntKind) (n : Nat) : List.replicate n (Value.int k 0) = rowK k (fun _ => 0) n := by
  apply List.ext_getElem?
  intro i
  by_cases h : i < n
  · simp [rowK, h]
  · simp [rowK, h]
theorem rowK_set (k : IntKind) (f : Nat → Nat) (n j b : Nat) : (rowK k f n).set j (Value.int k (b : Int)) = rowK k (fun i => if i = j then b else f i) n := by
  apply List.ext_getElem?
  intro i
  simp only [rowK, List.getElem?_set, List.getElem?_map, List.length_map, List.length_range]
  by_cases h : i < n
  · by_cases e : j = i
    · subst e; simp [h]
    · simp [h, e]; rw [if_neg (fun h' => e h'.symm)]
  · by_cases e : j = i
    · subst e; simp [h]
    · simp [h, e]
/-- what is known of a slice of n numbers that is read -/
def Reads (k : IntKind) (w : World) (v : Value) (n : Nat) (f : Nat → Nat) : Prop :=
  (n = 0 ∧ ∃ a cap, v = .slice a 0 cap) ∨ ∃ b off cap, v = .slice (some ⟨b, off, none⟩) n cap ∧ ∀ i, i < n → w.cell? ⟨b, off + i, none⟩ = some (.int k (f i : Nat))
theorem reads_own {k : IntKind} {w : World} {base : Nat} {e : TypeId} {v : Value} {n : Nat} {f : Nat → Nat} (h : w.ownsRow base e 1 v n (rowK k f n)) : Reads k w v n f := by
  rcases h.2 with ⟨rfl, rfl⟩ | ⟨g, cap, cur, rfl, _⟩
  · exact .inl ⟨rfl, _, _, rfl⟩
  · exact .inr ⟨g, 0, cap, rfl, fun i hi => by rw [Nat.zero_add, h.cellAt i (by omega)]; exact rowK_get _ _ _ _ hi⟩
theorem reads_below {k : IntKind} {w w' : World} {v : Value} {n : Nat} {f : Nat → Nat} (h : Reads k w v n f) (hb : Below w.heap.size w w') : Reads k w' v n f := by
  rcases h with h | ⟨b, off, cap, hv, hc⟩
  · exact .inl h
  · exact .inr ⟨b, off, cap, hv, fun i hi => by rw [hb.cell (p := ⟨b, off + i, none⟩) (block_lt_of_cell (hc i hi))]; exact hc i hi⟩
theorem reads_some {k : IntKind} {w : World} {v : Value} {n : Nat} {f : Nat → Nat} (h : Reads k w v n f) (hn : 0 < n) : ∃ b off cap, v = .slice (some ⟨b, off, none⟩) n cap ∧ ∀ i, i < n → w.cell? ⟨b, off + i, none⟩ = some (.int k (f i : Nat)) := by
  rcases h with ⟨h, _⟩ | h
  · omega
  · exact h
theorem reads_form {k : IntKind} {w : World} {v : Value} {n : Nat} {f : Nat → Nat} (h : Reads k w v n f) : ∃ a cap, v = .slice a n cap := by
  rcases h with ⟨rfl, a, cap, rfl⟩ | ⟨b, off, cap, rfl, _⟩
  · exact ⟨_, _, rfl⟩
  · exact ⟨_, _, rfl⟩
theorem aligned_pos (a b : Int) (ha : 0 ≤ a) (hb : 0 < b) (w : World) : Calls Try.prog 40 #[.int .u64 a, .int .u64 b] w fun e w' => e = .returned (.bool (a % b == 0)) ∧ w' = w := by
  have h : (b == 0) = false := by simp; omega
  go_enter Try.func40, Try.ntmps40
  go_wp2
  go_ret
  exact ⟨rfl, rfl⟩
theorem rowK_length (k : IntKind) (f : Nat → Nat) (n : Nat) : (rowK k f n).length = n := by simp [rowK]
theorem wpList_lookup_run {P : Program} {w : World} {ops : Array Oper} {rest : List Oper} {o : Oper} {a : Act} {Q : Exit → Act → World → Prop} (hg : o.guard = none) (m x : Operand) (t : TypeId) (hop : o.op = Op.lookup t m x true) {mv key v : Value} (hm : a.eval m = mv) (hx : a.eval x = key) (hrun : (Instr.lookup t mv key true).run P w = .ok v w)
    (h : wpList P ops Q rest (a.put o.dst v) w) : wpList P ops Q (o :: rest) a w := by
  refine wpList_plain hg fun K hK => ?_
  unfold Oper.wp
  simp [execOp, hop, hm, hx, hrun, Result.andThen]
  exact hK _ _ h
theorem wpList_mapUpdate_run {P : Program} {w : World} {ops : Array Oper} {rest : List Oper} {o : Oper} {a : Act} {Q : Exit → Act → World → Prop} (hg : o.guard = none) (m x v : Operand) (t : TypeId) (hop : o.op = Op.mapUpdate t m x v) {mv key val : Value} {w' : World} (hm : a.eval m = mv) (hx : a.eval x = key) (hv : a.eval v = val) (hrun : (Instr.mapUpdate t mv key val).run P w = .ok () w')
    (h : wpList P ops Q rest (a.put o.dst undef) w') : wpList P ops Q (o :: rest) a w := by
  refine wpList_plain hg fun K hK => ?_
  unfold Oper.wp
  simp [execOp, hop, hm, hx, hv, hrun, Result.andThen]
  exact hK _ _ h
theorem wf_u64 {k : Nat} (h : k < 18446744073709551616) : (Lit.int .u64 (k : Nat)).wf = true := by
  simp [Lit.wf, IntKind.min, IntKind.max, IntKind.signed, IntKind.bits]; omega
theorem replicate_row (n : Nat) : Array.replicate n (Value.int .u8 0) = (rowK .u8 (fun _ => 0) n).toArray := by
  rw [← rowK_zero]; simp
theorem rowK_at (k : IntKind) (f : Nat → Nat) (n j : Nat) (v : Value) (h : (rowK k f n)[j]? = some v) : j < n ∧ v = .int k (f j : Nat) := by
  by_cases hj : j < n
  · rw [rowK_get _ _ _ _ hj] at h; cases h; exact ⟨hj, rfl⟩
  · rw [List.getElem?_eq_none (by rw [rowK_length]; omega)] at h; cases h
theorem rowK_one (k : IntKind) (f : Nat → Nat) (n : Nat) : ∀ v ∈ rowK k f n, v.oneCell' = true := by
  intro v hv
  obtain ⟨i, _, rfl⟩ := List.mem_map.1 hv
  rfl
/-- 'copy' into a row that is known whole: how many go over is named, the world behind it too -/
theorem wpList_copy_at {P : Program} {w : World} {ops : Array Oper} {rest : List Oper} {o : Oper} {a : Act} {Q : Exit → Act → World → Prop} (hgd : o.guard = none) (d s : Operand) (dT sT : TypeId)
    (ho : o.op = .call { callee := .builtin .copy, args := #[d, s], argTypes := #[dT, sT] }) (elem : TypeId) (hu : P.underlying dT = some (.slice elem)) (hsz : (P.info? elem).map (·.size) = some 1)
    (g off dLen dCap : Nat) (ad : Addr) (sLen sCap : Nat) (hd : a.eval d = .slice (some ⟨g, off, none⟩) dLen dCap) (hs : a.eval s = .slice (some ad) sLen sCap)
    (cur : Array Value) (t : TypeId) (hg : w.heap[g]? = some (.cells cur t (0, 0))) (cs : List Value) (m : Nat) (hm : cs.length = m) (hn : m = Nat.min sLen dLen)
    (hsrc : ∀ j v, cs[j]? = some v → w.cell? (ad.add j) = some v) (hfit : off + m ≤ cur.size) (h1 : ∀ v ∈ cs, v.oneCell' = true)
    (h : ∀ w', Hid (w' = w.setRow g (cur.toList.take off ++ (cs ++ cur.toList.drop (off + cs.length))).toArray) → wpList P ops Q rest (a.put o.dst (.int .i64 (m : Nat))) w') : wpList P ops Q (o :: rest) a w := by
  subst hm
  exact wpList_copy_own hgd d s dT sT ho elem hu hsz g off dLen dCap ad sLen sCap hd hs cur t hg cs hn hsrc hfit h1 (h _ rfl)
theorem size5 : (Try.prog.info? 5).map (·.size) = some 1 := by kernel_rfl
theorem addr_add (b o j : Nat) : (⟨b, o, none⟩ : Addr).add j = ⟨b, o + j, none⟩ := by unfold Addr.add; split <;> simp_all
theorem row_copyN (N : Nat) (f g : Nat → Nat) (r m : Nat) (hm : r + m ≤ N) :
    (rowK .u8 f N).take r ++ (rowK .u8 g m ++ (rowK .u8 f N).drop (r + m)) = rowK .u8 (fun i => if r ≤ i ∧ i < r + m then g (i - r) else f i) N := by
  apply List.ext_getElem?
  intro i
  simp only [List.getElem?_append, List.getElem?_take, List.getElem?_drop, List.length_take, rowK_length]
  have hmin : min r N = r := by omega
  rw [hmin]
  by_cases h1 : i < r
  · simp only [h1, if_true]
    rw [rowK_get _ _ _ _ (by omega), rowK_get _ _ _ _ (by omega), if_neg (by omega)]
  · simp only [h1, if_false]
    by_cases h2 : i - r < m
    · simp only [h2, if_true]
      rw [rowK_get _ _ _ _ h2, rowK_get _ _ _ _ (by omega), if_pos (by omega)]
    · simp only [h2, if_false]
      rw [show r + m + (i - r - m) = i from by omega]
      by_cases h3 : i < N
      · rw [rowK_get _ _ _ _ h3, rowK_get _ _ _ _ h3, if_neg (by omega)]
      · rw [List.getElem?_eq_none (by rw [rowK_length]; omega), List.getElem?_eq_none (by rw [rowK_length]; omega)]
theorem whole_row {w : World} {base : Nat} {e : TypeId} {g n : Nat} {xs : List Value} (h : w.ownsRow base e 1 (.slice (some ⟨g, 0, none⟩) n n) n xs) : w.heap[g]? = some (.cells xs.toArray e (0, 0)) := by
  rcases h.2 with ⟨h1, _⟩ | ⟨g', cap, cur, hv, _, hg, _, _, hsz, htake⟩
  · cases h1
  · cases hv
    rw [hg, ← htake, List.take_of_length_le (by simp; omega)]
theorem row_owned {w : World} {base : Nat} {g n : Nat} {f : Nat → Nat} (hb : base ≤ g) (hn : n ≤ maxLen) (h : w.heap[g]? = some (.cells (rowK .u8 f n).toArray 5 (0, 0))) : w.ownsRow base 5 1 (.slice (some ⟨g, 0, none⟩) n n) n (rowK .u8 f n) :=
  ⟨by rw [rowK_length]; omega, .inr ⟨g, n, _, rfl, hb, h, Nat.le_refl _, hn, by rw [List.size_toArray, rowK_length]; omega, by simp only; rw [List.take_of_length_le (by rw [rowK_length]; omega)]⟩⟩
theorem reads_row {w : World} {g n N cap : Nat} {t : TypeId} {f : Nat → Nat} (h : w.heap[g]? = some (.cells (rowK .u8 f N).toArray t (0, 0))) (hn : n ≤ N) : Reads .u8 w (.slice (some ⟨g, 0, none⟩) n cap) n f :=
  .inr ⟨g, 0, cap, rfl, fun i hi => by simp only [World.cell?, h]; rw [List.getElem?_toArray, Nat.zero_add, rowK_get _ _ _ _ (by omega)]; rfl⟩
theorem bytes_same (f : Nat → Nat) (n : Nat) (v1 v2 : Value) (hn : n ≤ 1000000) (w : World) (r1 : Reads .u8 w v1 n f) (r2 : Reads .u8 w v2 n f) :
    Calls Try.prog 22 #[v1, v2] w fun e w' => e = .returned (.bool true) ∧ ∃ q, w' = w.drewN q := by
  obtain ⟨a1, c1, rfl⟩ := reads_form r1
  obtain ⟨a2, c2, rfl⟩ := reads_form r2
  by_cases h0 : n = 0
  · subst h0
    go_enter Try.func22, Try.ntmps22
    go_wp2
    go_loopw [5] (fun i wr => i = .int .i64 0 ∧ ∃ q, wr = w.drewN q) (fun _ _ => 0)
    case atStart => exact ⟨rfl, 0, rfl⟩
    case round =>
      obtain ⟨rfl, q, rfl⟩ := hrel
      go_wp2
      go_ret
      exact ⟨rfl, q, rfl⟩
  · obtain ⟨b1, o1, c1', e1, hc1⟩ := reads_some r1 (by omega)
    obtain ⟨b2, o2, c2', e2, hc2⟩ := reads_some r2 (by omega)
    simp only [Value.slice.injEq] at e1 e2
    obtain ⟨rfl, -, rfl⟩ := e1
    obtain ⟨rfl, -, rfl⟩ := e2
    go_enter Try.func22, Try.ntmps22
    go_wp2
    go_loopw [5] (fun i wr => ∃ k : Nat, k ≤ n ∧ i = .int .i64 k ∧ ∃ q, wr = w.drewN q) (fun i _ => n - (intOf i).toNat)
    case atStart => exact ⟨0, by omega, rfl, 0, rfl⟩
    case round =>
      obtain ⟨k, hk, rfl, q, rfl⟩ := hrel
      by_cases hlt : k < n
      · have h1 := hc1 k hlt
        have h2 := hc2 k hlt
        have hkL : (k : Int) < n := by omega
        clear hc1 hc2 r1 r2
        go_wp2
        go_quiet (fail)
        go_wp2
        go_roundw
        case rel => exact ⟨k + 1, by omega, by go_num, _, rfl⟩
        case measure => simp [intOf]; omega
      · clear hc1 hc2 r1 r2
        go_wp2
        go_ret
        exact ⟨rfl, q, rfl⟩
theorem src_zero {w : World} {x : Option Addr} {c : Nat} : Src (Try.prog) 1 25 (.slice x 0 c) 0 [] w := by
  cases x with
  | none => exact Src.ofNil w Try.underlying25 c
  | some a => exact Src.ofSlice w Try.underlying25 a 0 c [] rfl (by simp) (by simp)
theorem rowK_nil (k : IntKind) (f : Nat → Nat) : rowK k f 0 = [] := rfl
theorem cellOf {w : World} {b : Nat} {c : Array Value} {t : TypeId} (h : w.heap[b]? = some (.cells c t (0, 0))) (i : Nat) (v : Value) (hi : c[i]? = some v) : w.cell? ⟨b, i, none⟩ = some v := by
  simp only [World.cell?, h]; exact hi
theorem frozenOf {w : World} {b : Nat} {c : Array Value} {t : TypeId} (h : w.heap[b]? = some (.cells c t (0, 0))) (i : Nat) : w.frozen? ⟨b, i, none⟩ = false := by
  simp only [World.frozen?, h]; simp
def Box (t : TypeId) (w : World) (b : Nat) (c : Array Value) : Prop := w.heap[b]? = some (.cells c t (0, 0))
theorem below_box {w w2 : World} {b : Nat} {o : Obj} (h : w.heap[b]? = some o) (hb : Below w.heap.size w w2) : w2.heap[b]? = some o := (hb.block b (Array.getElem?_eq_some_iff.1 h).1).trans h
section
variable {t : TypeId} {w w' : World} {b : Nat} {c : Array Value}
theorem Box.step (h : Box t w b c) (hb : Below w.heap.size w w') : Box t w' b c := below_box h hb
theorem Box.lt (h : Box t w b c) : b < w.heap.size := (Array.getElem?_eq_some_iff.1 h).1
theorem Box.set (h : Box t w b c) (i : Nat) (v : Value) : Box t (w.setCell ⟨b, i, none⟩ v) b (c.setIfInBounds i v) := heap_setCell_same w b i c t v h
theorem Box.other {k : Nat} (h : Box t w b c) (i : Nat) (v : Value) (hk : b ≠ k) : Box t (w.setCell ⟨k, i, none⟩ v) b c := (heap_setCell_other w ⟨k, i, none⟩ b v hk).trans h
theorem Box.alloc (h : Box t w b c) (o : Obj) : Box t (w.alloc o) b c := h.step ((Below.refl _ _).alloc (Nat.le_refl _) o)
theorem Box.new (t : TypeId) (w : World) (c : Array Value) : Box t (w.alloc (.cells c t)) w.heap.size c := heap_alloc_new w (.cells c t)
theorem Box.cell (h : Box t w b c) (i : Nat) (v : Value) (hi : c[i]? = some v) : w.cell? ⟨b, i, none⟩ = some v := cellOf h i v hi
theorem Box.frozen (h : Box t w b c) (i : Nat) : w.frozen? ⟨b, i, none⟩ = false := frozenOf h i
theorem Box.drew (h : Box t w b c) : Box t w.drew b c := h.step (Below.drew (Below.refl _ _))
end
/-- but for one block all is as it was -/
def Upon (b : Nat) (w w' : World) : Prop := Below 0 w w' ∧ ∀ k, k < w.heap.size → k ≠ b → w'.heap[k]? = w.heap[k]?
theorem Upon.refl (b : Nat) (w : World) : Upon b w w := ⟨Below.refl _ _, fun _ _ _ => rfl⟩
theorem Upon.size {b : Nat} {w w' : World} (h : Upon b w w') : w.heap.size ≤ w'.heap.size := h.1.size
theorem Upon.trans {b : Nat} {w w' w2 : World} (h : Upon b w w') (k : Upon b w' w2) : Upon b w w2 := ⟨h.1.trans k.1, fun i hi hb => (k.2 i (Nat.lt_of_lt_of_le hi h.size) hb).trans (h.2 i hi hb)⟩
theorem Upon.of_below {b : Nat} {w w' : World} (h : Below w.heap.size w w') : Upon b w w' := ⟨h.mono (Nat.zero_le _), fun k hk _ => h.block k hk⟩
theorem Upon.set {b : Nat} {w w' : World} (h : Upon b w w') (i : Nat) (v : Value) : Upon b w (w'.setCell ⟨b, i, none⟩ v) := ⟨h.1.setCell (Nat.zero_le _) v, fun k hk hb => (Below.heap_setCell _ _ _ _ hb).trans (h.2 k hk hb)⟩
theorem Upon.below {b B : Nat} {w w' : World} (h : Upon b w w') (h1 : B ≤ b) (h2 : B ≤ w.heap.size) : Below B w w' := ⟨h.1.os, h.1.tape, h.1.output, h.1.size, fun k hk => h.2 k (by omega) (by omega)⟩
theorem Upon.box {t : TypeId} {b k : Nat} {w w' : World} {c : Array Value} (h : Upon b w w') (hx : Box t w k c) (hk : k ≠ b) : Box t w' k c := (h.2 k hx.lt hk).trans hx
theorem Upon.cell {b : Nat} {w w' : World} (h : Upon b w w') {p : Addr} {v : Value} (hp : w.cell? p = some v) (hk : p.block ≠ b) : w'.cell? p = some v := (World.cell?_of_block (w := w) (h.2 p.block (block_lt_of_cell hp) hk)).trans hp
end Go.Proofs.Ytkalaojbmedhjaa
