/- The ground: rows of bytes as lists, boxes; append and slices of rows. -/
import Derived.Test.YtjmgdhnjldimgaaRows
import Derived.WalkKit
import Derived.WalkSpells
import Derived.WalkLawsBesides
import Derived.OpenShut
import Derived.Deep.QuietTactic
import Derived.BigQuiet
import Derived.Outline
import Derived.Laws.CopyOwn
import Derived.Deep.RegionLaw
import Derived.BigRegion
import Derived.Deep.AppendSrc
import Derived.Deep.Upon
import Derived.Laws.Tables
import Derived.Laws.Rows
import Derived.Laws.StructEq
import Derived.Laws.NewBlocks
import Derived.Laws.BytesString
import Derived.Deep.DeepCutAuto
import Derived.Deep.CutBlock
import Derived.Deep.RegionWith
import Derived.Deep.RegionHeld3
namespace Go.Proofs.Ytjmgdhnjldimgaa
open Go.RowKit
set_option linter.unusedVariables false
set_option linter.unusedSimpArgs false
set_option maxRecDepth 100000
set_option maxRecDepth 100000
theorem ret_bool {a b : Bool} (h : a = b) : Ending.returned (.bool a) = .returned (.bool b) := by rw [h]
theorem ret_int {k : IntKind} {a b : Int} (h : a = b) : Ending.returned (.int k a) = .returned (.int k b) := by rw [h]
theorem wrap_u64 (x : Int) : IntKind.u64.wrap x = x % 18446744073709551616 := by simp [IntKind.wrap, IntKind.signed, IntKind.bits]
theorem Try.info5 : (Try.prog.info? 5).map (fun i => (i.zero, i.size, i.bytes)) = some (some (.int .u8 0), 1, 1) := by kernel_rfl
theorem size5 : (Try.prog.info? 5).map (·.size) = some 1 := by kernel_rfl
theorem addr_add (b o j : Nat) : (⟨b, o, none⟩ : Addr).add j = ⟨b, o + j, none⟩ := by unfold Addr.add; split <;> simp_all
/-- 'copy' into a row that is known whole: how many go over is named, the world behind it too -/
theorem wpList_copy_at {P : Program} {w : World} {ops : Array Oper} {rest : List Oper} {o : Oper} {a : Act} {Q : Exit → Act → World → Prop} (hgd : o.guard = none) (d s : Operand) (dT sT : TypeId)
    (ho : o.op = .call { callee := .builtin .copy, args := #[d, s], argTypes := #[dT, sT] }) (elem : TypeId) (hu : P.underlying dT = some (.slice elem)) (hsz : (P.info? elem).map (·.size) = some 1)
    (g off dLen dCap : Nat) (ad : Addr) (sLen sCap : Nat) (hd : a.eval d = .slice (some ⟨g, off, none⟩) dLen dCap) (hs : a.eval s = .slice (some ad) sLen sCap)
    (cur : Array Value) (t : TypeId) (hg : w.heap[g]? = some (.cells cur t (0, 0))) (cs : List Value) (m : Nat) (hm : cs.length = m) (hn : m = Nat.min sLen dLen)
    (hsrc : ∀ j v, cs[j]? = some v → w.cell? (ad.add j) = some v) (hfit : off + m ≤ cur.size) (h1 : ∀ v ∈ cs, v.oneCell' = true)
    (h : ∀ w', Hid (w' = w.setRow g (cur.toList.take off ++ (cs ++ cur.toList.drop (off + cs.length))).toArray) → wpList P ops Q rest (a.put o.dst (.int .i64 (m : Nat))) w') : wpList P ops Q (o :: rest) a w := by
  subst hm
  exact wpList_copy_own hgd d s dT sT ho elem hu hsz g off dLen dCap ad sLen sCap hd hs cur t hg cs hn hsrc hfit h1 (h _ rfl)
theorem cellOf {w : World} {b : Nat} {c : Array Value} {t : TypeId} (h : w.heap[b]? = some (.cells c t (0, 0))) (i : Nat) (v : Value) (hi : c[i]? = some v) : w.cell? ⟨b, i, none⟩ = some v := by
  simp only [World.cell?, h]; exact hi
theorem frozenOf {w : World} {b : Nat} {c : Array Value} {t : TypeId} (h : w.heap[b]? = some (.cells c t (0, 0))) (i : Nat) : w.frozen? ⟨b, i, none⟩ = false := by
  simp only [World.frozen?, h]; simp
def Box (t : TypeId) (w : World) (b : Nat) (c : Array Value) : Prop := w.heap[b]? = some (.cells c t (0, 0))
theorem below_box {w w2 : World} {b : Nat} {o : Obj} (h : w.heap[b]? = some o) (hb : Below w.heap.size w w2) : w2.heap[b]? = some o := (hb.block b (Array.getElem?_eq_some_iff.1 h).1).trans h
section
variable {t : TypeId} {w w' : World} {b : Nat} {c : Array Value}
theorem Box.step (h : Box t w b c) (hb : Below w.heap.size w w') : Box t w' b c := below_box h hb
theorem Box.lt (h : Box t w b c) : b < w.heap.size := (Array.getElem?_eq_some_iff.1 h).1
theorem Box.set (h : Box t w b c) (i : Nat) (v : Value) : Box t (w.setCell ⟨b, i, none⟩ v) b (c.setIfInBounds i v) := heap_setCell_same w b i c t v h
theorem Box.other {k : Nat} (h : Box t w b c) (i : Nat) (v : Value) (hk : b ≠ k) : Box t (w.setCell ⟨k, i, none⟩ v) b c := (heap_setCell_other w ⟨k, i, none⟩ b v hk).trans h
theorem Box.alloc (h : Box t w b c) (o : Obj) : Box t (w.alloc o) b c := h.step ((Below.refl _ _).alloc (Nat.le_refl _) o)
theorem Box.new (t : TypeId) (w : World) (c : Array Value) : Box t (w.alloc (.cells c t)) w.heap.size c := heap_alloc_new w (.cells c t)
theorem Box.cell (h : Box t w b c) (i : Nat) (v : Value) (hi : c[i]? = some v) : w.cell? ⟨b, i, none⟩ = some v := cellOf h i v hi
theorem Box.frozen (h : Box t w b c) (i : Nat) : w.frozen? ⟨b, i, none⟩ = false := frozenOf h i
theorem Box.drew (h : Box t w b c) : Box t w.drew b c := h.step (Below.drew (Below.refl _ _))
end
/-- but for one block all is as it was -/
def Upon (b : Nat) (w w' : World) : Prop := Below 0 w w' ∧ ∀ k, k < w.heap.size → k ≠ b → w'.heap[k]? = w.heap[k]?
theorem Upon.refl (b : Nat) (w : World) : Upon b w w := ⟨Below.refl _ _, fun _ _ _ => rfl⟩
theorem Upon.size {b : Nat} {w w' : World} (h : Upon b w w') : w.heap.size ≤ w'.heap.size := h.1.size
theorem Upon.trans {b : Nat} {w w' w2 : World} (h : Upon b w w') (k : Upon b w' w2) : Upon b w w2 := ⟨h.1.trans k.1, fun i hi hb => (k.2 i (Nat.lt_of_lt_of_le hi h.size) hb).trans (h.2 i hi hb)⟩
theorem Upon.of_below {b : Nat} {w w' : World} (h : Below w.heap.size w w') : Upon b w w' := ⟨h.mono (Nat.zero_le _), fun k hk _ => h.block k hk⟩
theorem Upon.set {b : Nat} {w w' : World} (h : Upon b w w') (i : Nat) (v : Value) : Upon b w (w'.setCell ⟨b, i, none⟩ v) := ⟨h.1.setCell (Nat.zero_le _) v, fun k hk hb => (Below.heap_setCell _ _ _ _ hb).trans (h.2 k hk hb)⟩
theorem Upon.below {b B : Nat} {w w' : World} (h : Upon b w w') (h1 : B ≤ b) (h2 : B ≤ w.heap.size) : Below B w w' := ⟨h.1.os, h.1.tape, h.1.output, h.1.size, fun k hk => h.2 k (by omega) (by omega)⟩
theorem Upon.box {t : TypeId} {b k : Nat} {w w' : World} {c : Array Value} (h : Upon b w w') (hx : Box t w k c) (hk : k ≠ b) : Box t w' k c := (h.2 k hx.lt hk).trans hx
theorem Upon.cell {b : Nat} {w w' : World} (h : Upon b w w') {p : Addr} {v : Value} (hp : w.cell? p = some v) (hk : p.block ≠ b) : w'.cell? p = some v := (World.cell?_of_block (w := w) (h.2 p.block (block_lt_of_cell hp) hk)).trans hp
/-- but for two blocks all is as it was -/
def Two (a b : Nat) (w w' : World) : Prop := Below 0 w w' ∧ ∀ k, k < w.heap.size → k ≠ a → k ≠ b → w'.heap[k]? = w.heap[k]?
section
variable {a b : Nat} {w w' w2 : World}
theorem Two.refl (a b : Nat) (w : World) : Two a b w w := ⟨Below.refl _ _, fun _ _ _ _ => rfl⟩
theorem Two.size (h : Two a b w w') : w.heap.size ≤ w'.heap.size := h.1.size
theorem Two.trans (h : Two a b w w') (k : Two a b w' w2) : Two a b w w2 := ⟨h.1.trans k.1, fun i hi ha hb => (k.2 i (Nat.lt_of_lt_of_le hi h.size) ha hb).trans (h.2 i hi ha hb)⟩
theorem Two.of_below (h : Below w.heap.size w w') : Two a b w w' := ⟨h.mono (Nat.zero_le _), fun k hk _ _ => h.block k hk⟩
theorem Two.of_upon (h : Upon a w w') : Two a b w w' := ⟨h.1, fun k hk ha _ => h.2 k hk ha⟩
theorem Two.of_grown (h : w.grownBy w' (some b)) : Two a b w w' := ⟨⟨h.os, h.tape, h.output, h.size, fun k hk => absurd hk (Nat.not_lt_zero _)⟩, fun k hk _ hb => h.block k hk (fun e => hb (Option.some.inj e))⟩
theorem Two.below (h : Two a b w w') {B : Nat} (h1 : B ≤ a) (h2 : B ≤ b) (h3 : B ≤ w.heap.size) : Below B w w' := ⟨h.1.os, h.1.tape, h.1.output, h.1.size, fun k hk => h.2 k (by omega) (by omega) (by omega)⟩
theorem Two.box {t : TypeId} {k : Nat} {c : Array Value} (h : Two a b w w') (hx : Box t w k c) (ha : k ≠ a) (hb : k ≠ b) : Box t w' k c := (h.2 k hx.lt ha hb).trans hx
theorem Two.heap {k : Nat} {o : Obj} (h : Two a b w w') (hx : w.heap[k]? = some o) (ha : k ≠ a) (hb : k ≠ b) : w'.heap[k]? = some o := (h.2 k (Array.getElem?_eq_some_iff.1 hx).1 ha hb).trans hx
theorem Two.cell {p : Addr} {v : Value} (h : Two a b w w') (hp : w.cell? p = some v) (ha : p.block ≠ a) (hb : p.block ≠ b) : w'.cell? p = some v := (World.cell?_of_block (w := w) (h.2 p.block (block_lt_of_cell hp) ha hb)).trans hp
end
/-- whole sectors at operations -/
theorem upon_row {b : Nat} {w w' : World} (h : Upon b w w') (d : Array Value) : Upon b w (w'.setRow b d) := ⟨⟨h.1.os, h.1.tape, h.1.output, by rw [setRow_size]; exact h.1.size, fun k hk => absurd hk (Nat.not_lt_zero _)⟩, fun k hk hb => (setRow_other w' b k d hb).trans (h.2 k hk hb)⟩
theorem under5 : Try.prog.underlying 5 = some (.int .u8) := by kernel_rfl
theorem wpList_want {w : World} {ops : Array Oper} {rest : List Oper} {o : Oper} {a : Act} {Q : Exit → Act → World → Prop} (hw : Region.wanted o (yielded ops a.tmps) = true) (h : ∀ KK : Act → World → Prop, (∀ a w, wpList Try.prog ops Q rest a w → KK a w) → o.wp Try.prog a w KK Q) : wpList Try.prog ops Q (o :: rest) a w :=
  wpList_step fun KK hKK => by rw [if_pos hw]; exact h KK hKK
theorem run_alloc_zero (t : TypeId) (c : Array Value) (n : Nat) (h : (Try.prog.info? t).map (fun i => (i.zero, i.size)) = some (some (.agg c), n)) (w : World) : (Instr.alloc t true (.tuple #[])).run Try.prog w = .ok (.pointer (some ⟨w.heap.size, 0, none⟩)) (w.alloc (.cells c t)) := by
  cases hq : Try.prog.info? t with
  | none => simp [hq] at h
  | some i =>
    have hz : i.zero = some (.agg c) := by simp [hq] at h; exact h.1
    simp [Instr.alloc, zeroValue, typeInfo, hq, hz, newVar, newRow, Value.cells]
section
variable {w : World} {ops : Array Oper} {rest : List Oper} {o : Oper} {a : Act} {Q : Exit → Act → World → Prop}
theorem wpList_alloc_zero (t : TypeId) (c : Array Value) (n : Nat) (hi : (Try.prog.info? t).map (fun i => (i.zero, i.size)) = some (some (.agg c), n)) (hg : o.guard = none) (hop : o.op = Op.alloc t) (h : wpList Try.prog ops Q rest (a.put o.dst (.pointer (some ⟨w.heap.size, 0, none⟩))) (w.alloc (.cells c t))) : wpList Try.prog ops Q (o :: rest) a w := by
  refine wpList_plain hg fun K hK => ?_
  unfold Oper.wp
  simp [execOp, hop, run_alloc_zero t c n hi w, Result.andThen]
  exact hK _ _ h
theorem wpList_box_agg (t : TypeId) (c : Array Value) (x : Operand) (hg : o.guard = none) (hop : o.op = Op.box t x) (hx : a.eval x = .agg c) (h : wpList Try.prog ops Q rest (a.put o.dst (.pointer (some ⟨w.heap.size, 0, none⟩))) (w.alloc (.cells c t))) : wpList Try.prog ops Q (o :: rest) a w := by
  refine wpList_plain hg fun K hK => ?_
  unfold Oper.wp
  simp [execOp, hop, hx, Instr.box, newVar, newRow, Value.cells, Result.andThen]
  exact hK _ _ h
end
section
variable {w : World} {o : Oper} {a : Act} {KK : Act → World → Prop} {Q : Exit → Act → World → Prop}
theorem wp_alloc_zero (t : TypeId) (c : Array Value) (n : Nat) (hi : (Try.prog.info? t).map (fun i => (i.zero, i.size)) = some (some (.agg c), n)) (hop : o.op = Op.alloc t) (h : KK (a.put o.dst (.pointer (some ⟨w.heap.size, 0, none⟩))) (w.alloc (.cells c t))) : o.wp Try.prog a w KK Q := by
  unfold Oper.wp
  simp [execOp, hop, run_alloc_zero t c n hi w, Result.andThen]
  exact h
end
/-- bytes as cells -/
def row8 (l : List Nat) : List Value := l.map fun x => Value.int .u8 ((x : Nat) : Int)
theorem row8_length (l : List Nat) : (row8 l).length = l.length := by simp [row8]
theorem row8_append (a b : List Nat) : row8 (a ++ b) = row8 a ++ row8 b := by simp [row8]
theorem row8_at {l : List Nat} {i : Nat} {v : Value} (h : (row8 l)[i]? = some v) : ∃ x, l[i]? = some x ∧ v = .int .u8 (x : Nat) := by
  unfold row8 at h
  rw [List.getElem?_map] at h
  cases hx : l[i]? with
  | none => rw [hx] at h; cases h
  | some x => rw [hx] at h; simp at h; exact ⟨x, rfl, h.symm⟩
theorem row8_get {l : List Nat} {i x : Nat} (h : l[i]? = some x) : (row8 l)[i]? = some (.int .u8 (x : Nat)) := by unfold row8; rw [List.getElem?_map, h]; rfl
theorem row8_one (l : List Nat) : ∀ v ∈ row8 l, v.oneCell' = true := by
  intro v hv
  obtain ⟨i, _, rfl⟩ := List.mem_map.1 hv
  rfl
theorem row8_zero (n : Nat) : Array.replicate n (Value.int .u8 0) = (row8 (List.replicate n 0)).toArray := by simp [row8]
/-- bytes as they lie in a block -/
def Lies (w : World) (d off : Nat) (l : List Nat) : Prop := ∀ i x, l[i]? = some x → w.cell? ⟨d, off + i, none⟩ = some (.int .u8 (x : Nat))
/-- A SLICE OF BYTES THAT IS READ: l, in block d -/
def RL (w : World) (v : Value) (d : Nat) (l : List Nat) : Prop := ∃ a cap, v = .slice a l.length cap ∧ l.length ≤ cap ∧ cap ≤ 9223372036854775807 ∧ (l = [] ∨ ∃ off, a = some ⟨d, off, none⟩ ∧ Lies w d off l)
/-- A ROW OF ITS OWN: l, in block g, whatever is behind it -/
def WA (w : World) (v : Value) (g : Nat) (l : List Nat) : Prop := (l = [] ∧ v = .slice none 0 0) ∨ ∃ cap cur, v = .slice (some ⟨g, 0, none⟩) l.length cap ∧ w.heap[g]? = some (.cells cur 5 (0, 0)) ∧ l.length ≤ cap ∧ cap ≤ cur.size ∧ cap ≤ 9223372036854775807 ∧ cur.toList.take l.length = row8 l
section
variable {w w' : World} {v : Value} {d g a b : Nat} {l : List Nat}
theorem Lies.lt {off : Nat} (h : Lies w d off l) (h0 : l ≠ []) : d < w.heap.size := by
  cases l with
  | nil => exact absurd rfl h0
  | cons x l => exact block_lt_of_cell (h 0 x rfl)
theorem Lies.kept {off : Nat} (h : Lies w d off l) (e : w'.heap[d]? = w.heap[d]?) : Lies w' d off l := fun i x hi => (World.cell?_of_block (a := ⟨d, off + i, none⟩) e).trans (h i x hi)
theorem RL.kept (h : RL w v d l) (e : d < w.heap.size → w'.heap[d]? = w.heap[d]?) : RL w' v d l := by
  obtain ⟨a, cap, hv, h1, h2, h3⟩ := h
  refine ⟨a, cap, hv, h1, h2, ?_⟩
  rcases h3 with h3 | ⟨off, ha, hl⟩
  · exact .inl h3
  · by_cases h0 : l = []
    · exact .inl h0
    · exact .inr ⟨off, ha, hl.kept (e (hl.lt h0))⟩
theorem RL.step (h : RL w v d l) (hb : Below w.heap.size w w') : RL w' v d l := h.kept fun hd => hb.block d hd
theorem RL.two (h : RL w v d l) (hs : Two a b w w') (h1 : d ≠ a) (h2 : d ≠ b) : RL w' v d l := h.kept fun hd => hs.2 d hd h1 h2
theorem RL.upon (h : RL w v d l) (hs : Upon a w w') (h1 : d ≠ a) : RL w' v d l := h.kept fun hd => hs.2 d hd h1
theorem RL.off (h : RL w v d l) (hs : Upon a w w') (h1 : l = [] ∨ d ≠ a) : RL w' v d l := by
  rcases h1 with rfl | h1
  · obtain ⟨x, cap, hv, h1, h2, _⟩ := h
    exact ⟨x, cap, hv, h1, h2, .inl rfl⟩
  · exact h.upon hs h1
theorem RL.old (h : RL w v d l) (h0 : l ≠ []) : d < w.heap.size := by
  obtain ⟨x, cap, hv, h1, h2, h3⟩ := h
  obtain ⟨off, _, hl⟩ := h3.resolve_left h0
  exact hl.lt h0
theorem RL.form (h : RL w v d l) : ∃ a cap, v = .slice a l.length cap := by obtain ⟨a, cap, hv, _⟩ := h; exact ⟨a, cap, hv⟩
theorem RL.nil (w : World) (d : Nat) : RL w (.slice none 0 0) d [] := ⟨none, 0, rfl, Nat.le_refl _, by omega, .inl rfl⟩
theorem RL.of_nil {v : Value} {d2 : Nat} (h : RL w v d []) : RL w v d2 [] := by
  obtain ⟨a, cap, hv, h1, h2, h3⟩ := h
  exact ⟨a, cap, hv, h1, h2, .inl rfl⟩
theorem WA.kept (h : WA w v g l) (e : g < w.heap.size → w'.heap[g]? = w.heap[g]?) : WA w' v g l := by
  rcases h with h | ⟨cap, cur, hv, hh, h3⟩
  · exact .inl h
  · exact .inr ⟨cap, cur, hv, (e (Array.getElem?_eq_some_iff.1 hh).1).trans hh, h3⟩
theorem WA.step (h : WA w v g l) (hb : Below w.heap.size w w') : WA w' v g l := h.kept fun hd => hb.block g hd
theorem WA.two (h : WA w v g l) (hs : Two a b w w') (h1 : g ≠ a) (h2 : g ≠ b) : WA w' v g l := h.kept fun hd => hs.2 g hd h1 h2
theorem WA.upon (h : WA w v g l) (hs : Upon a w w') (h1 : g ≠ a) : WA w' v g l := h.kept fun hd => hs.2 g hd h1
theorem WA.nil (w : World) (g : Nat) : WA w (.slice none 0 0) g [] := .inl ⟨rfl, rfl⟩
theorem WA.lies (h : WA w v g l) (h0 : l ≠ []) : Lies w g 0 l := by
  rcases h with ⟨h, _⟩ | ⟨cap, cur, hv, hh, h1, h2, h3, h4⟩
  · exact absurd h h0
  · intro i x hi
    have := row8_get hi
    rw [← h4, List.getElem?_take] at this
    split at this
    · rw [Nat.zero_add]
      exact cellOf hh i _ (by simpa using this)
    · cases this
theorem WA.reads (h : WA w v g l) : RL w v g l := by
  by_cases h0 : l = []
  · subst h0
    rcases h with ⟨_, rfl⟩ | ⟨cap, cur, rfl, hh, h1, h2, h3, h4⟩
    · exact RL.nil w g
    · exact ⟨_, cap, rfl, h1, h3, .inl rfl⟩
  · have hl := h.lies h0
    rcases h with ⟨h, _⟩ | ⟨cap, cur, hv, hh, h1, h2, h3, h4⟩
    · exact absurd h h0
    · exact ⟨_, cap, hv, h1, h3, .inr ⟨0, rfl, hl⟩⟩
/-- a row whose block is no row of bytes is nil -/
theorem WA.nil_of (h : WA w v g l) (hn : ∀ cur, w.heap[g]? ≠ some (.cells cur 5 (0, 0))) : l = [] ∧ v = .slice none 0 0 := by
  rcases h with h | ⟨cap, cur, hv, hh, _⟩
  · exact h
  · exact absurd hh (hn cur)
theorem WA.of_owns {n base : Nat} {xs : List Value} (h : w.ownsRow base 5 1 v n xs) (e : xs = row8 l) (hn : n = l.length) : ∃ g', WA w v g' l ∧ ((v = .slice none 0 0 ∧ l = []) ∨ (base ≤ g' ∧ g' < w.heap.size)) := by
  subst hn e
  rcases h.2 with ⟨rfl, h0⟩ | ⟨g', cap, cur, rfl, hb, hg, hle, hm, hs, ht⟩
  · have h0 : l = [] := List.eq_nil_of_length_eq_zero h0
    subst h0
    exact ⟨0, WA.nil w 0, .inl ⟨rfl, rfl⟩⟩
  · refine ⟨g', .inr ⟨cap, cur, rfl, hg, hle, by omega, by unfold maxLen at hm; omega, by simpa using ht⟩, .inr ⟨hb, (Array.getElem?_eq_some_iff.1 hg).1⟩⟩
end
theorem src_zero {w : World} {x : Option Addr} {c : Nat} : Src (Try.prog) 1 25 (.slice x 0 c) 0 [] w := by
  cases x with
  | none => exact Src.ofNil w Try.underlying25 c
  | some a => exact Src.ofSlice w Try.underlying25 a 0 c [] rfl (by simp) (by simp)
/-- APPEND to a row of its own -/
theorem run_append_wa {w : World} {v x : Value} {g d : Nat} {l D : List Nat} (ty : TypeId) (h : WA w v g l) (hr : RL w x d D) (hL : l.length + D.length ≤ 1000000) :
    ∃ v' w' g', (Builtin.append_ #[25, 25] ty #[v, x]).run Try.prog w = .ok v' w' ∧ WA w' v' g' (l ++ D) ∧ Upon g w w' ∧ (g' = g ∨ (w.heap.size ≤ g' ∧ g' < w'.heap.size ∧ Below w.heap.size w w')) := by
  obtain ⟨i0, hi, hz0, hz1, hz2⟩ := info_parts Try.info5
  obtain ⟨ax, cx, rfl, hcx, _, hx⟩ := hr
  by_cases h0 : D = []
  · subst h0
    obtain ⟨bs, cap, rfl, hle⟩ : ∃ bs cap, v = .slice bs l.length cap ∧ l.length ≤ cap := by
      rcases h with ⟨rfl, rfl⟩ | ⟨cap, cur, rfl, _, h1, _⟩
      · exact ⟨none, 0, rfl, Nat.le_refl _⟩
      · exact ⟨_, cap, rfl, h1⟩
    have hrun := run_append_nothing (P := Try.prog) w 25 25 ty 5 i0 Try.underlying25 hi bs l.length cap hle (.slice ax 0 cx) (by rw [hz1]; exact src_zero)
    exact ⟨_, w, g, hrun, by rw [List.append_nil]; exact h, Upon.refl _ _, .inl rfl⟩
  · rcases hx with hx | ⟨off, rfl, hl⟩
    · exact absurd hx h0
    have hD : 0 < D.length := List.length_pos_iff.2 h0
    have hnews : ∀ j u, (row8 D)[j]? = some u → w.cell? ((⟨d, off, none⟩ : Addr).add j) = some u := fun j u hu => by obtain ⟨y, h1, rfl⟩ := row8_at hu; rw [addr_add]; exact hl j y h1
    have hfresh : ∀ {v' : Value} {w' : World}, w'.ownsRow w.heap.size 5 1 v' (l.length + D.length) (row8 l ++ row8 D) → w.grownBy w' none → ∃ g', WA w' v' g' (l ++ D) ∧ Upon g w w' ∧ (g' = g ∨ (w.heap.size ≤ g' ∧ g' < w'.heap.size ∧ Below w.heap.size w w')) := by
      intro v' w' ho hg
      obtain ⟨g', hw, hor⟩ := WA.of_owns (l := l ++ D) ho (row8_append l D).symm (by simp)
      have hb : Below w.heap.size w w' := ⟨hg.os, hg.tape, hg.output, hg.size, fun k hk => hg.block k hk (by simp)⟩
      rcases hor with ⟨_, h2⟩ | ⟨h1, h2⟩
      · simp at h2; exact absurd h2.2 h0
      · exact ⟨g', hw, Upon.of_below hb, .inr ⟨h1, h2, hb⟩⟩
    rcases h with ⟨rfl, rfl⟩ | ⟨cap, cur, rfl, hh, h1, h2, h3, h4⟩
    · obtain ⟨v', w', hrun, r1, r2, _⟩ := run_append_own (P := Try.prog) w w.heap.size 25 ty 5 i0 (.int .u8 0) 1 1 Try.underlying25 hi hz0 hz1 hz2 rfl (by decide) (.slice none 0 0) 0 [] (World.ownsRow_nil w _ 5 1) ⟨d, off, none⟩ D.length cx (row8 D) (by rw [row8_length]; omega) hnews (row8_one D) (by unfold maxLen; omega) (by omega) (Nat.le_refl _)
      obtain ⟨g', a1, a2, a3⟩ := hfresh (by simpa [row8] using r1) r2
      exact ⟨v', w', g', hrun, a1, a2, a3⟩
    · by_cases hroom : l.length + D.length ≤ cap
      · have hr := run_append_room (P := Try.prog) w 25 ty 5 i0 Try.underlying25 hi g l.length cap cur hh ⟨d, off, none⟩ D.length cx (row8 D) (by rw [row8_length, hz1]; omega) hnews (row8_one D) hroom (by rw [row8_length, hz1]; omega)
        rw [hz1, Nat.mul_one] at hr
        refine ⟨_, _, g, hr, .inr ⟨cap, _, by rw [List.length_append], setRow_heap w g cur _ 5 _ hh, by simpa using hroom, ?_, h3, ?_⟩, upon_row (Upon.refl _ _) _, .inl rfl⟩
        · simp only [List.size_toArray, List.length_append, List.length_take, List.length_drop, Array.length_toList, row8_length]
          omega
        · rw [h4, row8_append, ← row8_append, show (l ++ D).length = (row8 (l ++ D)).length from (row8_length _).symm]
          exact List.take_left
      · obtain ⟨v', w', hrun, r1, r2⟩ := run_append_arg_grows (P := Try.prog) w 25 ty 5 i0 (.int .u8 0) 1 1 Try.underlying25 hi hz0 hz1 hz2 rfl (by decide) ⟨g, 0, none⟩ l.length cap (row8 l) (by rw [row8_length]; omega) (fun j u hu => by
            by_cases hl0 : l = []
            · subst hl0; simp [row8] at hu
            · have hW : WA w (.slice (some ⟨g, 0, none⟩) l.length cap) g l := .inr ⟨cap, cur, rfl, hh, h1, h2, h3, h4⟩
              obtain ⟨y, e1, rfl⟩ := row8_at hu
              rw [addr_add]; exact hW.lies hl0 j y e1) ⟨d, off, none⟩ D.length cx (row8 D) (by rw [row8_length]; omega) hnews (by omega) (by unfold maxLen; omega) (by omega)
        obtain ⟨g', a1, a2, a3⟩ := hfresh r1 r2
        exact ⟨v', w', g', hrun, a1, a2, a3⟩
section
variable {w : World} {ops : Array Oper} {rest : List Oper} {o : Oper} {a : Act} {KK : Act → World → Prop} {Q : Exit → Act → World → Prop} {v x : Value} {g d : Nat} {l D : List Nat}
theorem wp_append_wa (s y : Operand) (ho : o.op = .call { callee := .builtin .append, args := #[s, y], argTypes := #[25, 25] }) (hs : a.eval s = v) (hy : a.eval y = x) (h : WA w v g l) (hr : RL w x d D) (hL : l.length + D.length ≤ 1000000)
    (hK : ∀ v' w' g', WA w' v' g' (l ++ D) → Upon g w w' → (g' = g ∨ (w.heap.size ≤ g' ∧ g' < w'.heap.size ∧ Below w.heap.size w w')) → KK (a.put o.dst v') w') : o.wp Try.prog a w KK Q := by
  obtain ⟨v', w', g', hrun, h1, h2, h3⟩ := run_append_wa o.type h hr hL
  unfold Oper.wp
  simp [execOp, ho, resolve, invoke, builtin, hs, hy, hrun, Result.andThen]
  exact hK v' w' g' h1 h2 h3
theorem wpList_append_wa (hgd : o.guard = none) (s y : Operand) (ho : o.op = .call { callee := .builtin .append, args := #[s, y], argTypes := #[25, 25] }) (hs : a.eval s = v) (hy : a.eval y = x) (h : WA w v g l) (hr : RL w x d D) (hL : l.length + D.length ≤ 1000000)
    (hK : ∀ v' w' g', WA w' v' g' (l ++ D) → Upon g w w' → (g' = g ∨ (w.heap.size ≤ g' ∧ g' < w'.heap.size ∧ Below w.heap.size w w')) → wpList Try.prog ops Q rest (a.put o.dst v') w') : wpList Try.prog ops Q (o :: rest) a w :=
  wpList_plain hgd fun _ hKK => wp_append_wa s y ho hs hy h hr hL fun v' w' g' h1 h2 h3 => hKK _ _ (hK v' w' g' h1 h2 h3)
end
/-- APPEND to nothing -/
theorem wpList_append_new {w : World} {ops : Array Oper} {rest : List Oper} {o : Oper} {a : Act} {Q : Exit → Act → World → Prop} {x : Value} {d : Nat} {D : List Nat} (g0 : Nat) (hgd : o.guard = none) (s y : Operand) (ho : o.op = .call { callee := .builtin .append, args := #[s, y], argTypes := #[25, 25] }) (hs : a.eval s = .slice none 0 0) (hy : a.eval y = x) (hr : RL w x d D) (hL : D.length ≤ 1000000)
    (hK : ∀ v' w' g', WA w' v' g' D → Below w.heap.size w w' → (g' = g0 ∨ (w.heap.size ≤ g' ∧ g' < w'.heap.size)) → wpList Try.prog ops Q rest (a.put o.dst v') w') : wpList Try.prog ops Q (o :: rest) a w := by
  refine wpList_append_wa (g := w.heap.size) (l := []) hgd s y ho hs hy (WA.nil w _) hr (by simpa using hL) ?_
  intro v' w' g' h1 h2 h3
  rw [List.nil_append] at h1
  have hb := h2.below (Nat.le_refl _) (Nat.le_refl _)
  rcases h1 with ⟨rfl, rfl⟩ | ⟨cap, cur, hv, hh, h4⟩
  · exact hK _ w' g0 (WA.nil w' g0) hb (.inl rfl)
  · exact hK _ w' g' (.inr ⟨cap, cur, hv, hh, h4⟩) hb (.inr ⟨by omega, (Array.getElem?_eq_some_iff.1 hh).1⟩)
/-- SLICES of a slice that is read -/
theorem run_hi {w : World} {v : Value} {d k : Nat} {l : List Nat} (h : RL w v d l) (hk : k ≤ l.length) : ∃ v', (∀ V, (Instr.sliceAt 25 v none (some (.int .i64 (k : Nat))) none).run Try.prog V = .ok v' V) ∧ RL w v' d (l.take k) := by
  obtain ⟨a, cap, rfl, h1, h2, h3⟩ := h
  have hsz : ∀ V, (sizeOf 5).run Try.prog V = .ok 1 V := fun V => by kernel_rfl
  have e : (l.take k).length = k := by rw [List.length_take]; omega
  refine ⟨.slice (if cap = 0 then a else a.map (·.add 0)) k cap, ?_, ?_⟩
  · intro V
    have hb : (0 : Int) ≤ (k : Int) ∧ (k : Int) ≤ (cap : Int) := by omega
    simp [Instr.sliceAt, Instr.slice, run_underlying Try.underlying25, Instr.sliceBounds, Instr.sliceBound, asIntOf, hsz, hb]
    intro hq; omega
  · refine ⟨_, cap, by rw [e], by omega, h2, ?_⟩
    rcases h3 with rfl | ⟨off, rfl, hl⟩
    · exact .inl (by simp)
    · refine .inr ⟨off, ?_, fun i x hi => hl i x ?_⟩
      · have e1 := addr_add d off 0
        rw [Nat.add_zero] at e1
        split <;> simp [e1]
      · rw [List.getElem?_take] at hi
        split at hi
        · exact hi
        · cases hi
theorem run_lo {w : World} {v : Value} {d k : Nat} {l : List Nat} (h : RL w v d l) (hk : k ≤ l.length) : ∃ v', (Instr.sliceAt 25 v (some (.int .i64 (k : Nat))) none none).run Try.prog w = .ok v' w ∧ RL w v' d (l.drop k) := by
  obtain ⟨a, cap, rfl, h1, h2, h3⟩ := h
  have hsz : (sizeOf 5).run Try.prog w = .ok 1 w := by kernel_rfl
  refine ⟨.slice (if cap = k then a else a.map (·.add (k * 1))) (l.length - k) (cap - k), ?_, ?_⟩
  · have hb : (0 : Int) ≤ (k : Int) ∧ (k : Int) ≤ (l.length : Int) := by omega
    simp [Instr.sliceAt, Instr.slice, run_underlying Try.underlying25, Instr.sliceBounds, Instr.sliceBound, asIntOf, hsz, hb]
    intro hq; omega
  · refine ⟨_, cap - k, by rw [List.length_drop], by rw [List.length_drop]; omega, by omega, ?_⟩
    by_cases hd : l.drop k = []
    · exact .inl hd
    · have hlt : k < l.length := by
        by_cases hq : k < l.length
        · exact hq
        · exact absurd (List.drop_eq_nil_of_le (by omega)) hd
      rcases h3 with rfl | ⟨off, rfl, hl⟩
      · exact .inl (by simp)
      · refine .inr ⟨off + k, ?_, fun i x hi => ?_⟩
        · rw [if_neg (by omega), Nat.mul_one]
          simp [addr_add]
        · rw [List.getElem?_drop] at hi
          rw [Nat.add_assoc]
          exact hl _ x hi
/-- without spare room -/
theorem run_cut {w : World} {v : Value} {g : Nat} {l : List Nat} (h : WA w v g l) : ∃ v', (Instr.sliceAt 25 v none (some (.int .i64 (l.length : Nat))) (some (.int .i64 (l.length : Nat)))).run Try.prog w = .ok v' w ∧ WA w v' g l := by
  have hsz : (sizeOf 5).run Try.prog w = .ok 1 w := by kernel_rfl
  rcases h with ⟨rfl, rfl⟩ | ⟨cap, cur, rfl, hh, h1, h2, h3, h4⟩
  · refine ⟨.slice none 0 0, ?_, WA.nil w g⟩
    simp [Instr.sliceAt, Instr.slice, run_underlying Try.underlying25, Instr.sliceBounds, Instr.sliceBound, asIntOf, hsz]
  · refine ⟨.slice (some ⟨g, 0, none⟩) l.length l.length, ?_, .inr ⟨l.length, cur, rfl, hh, Nat.le_refl _, by omega, by omega, h4⟩⟩
    have hb : (0 : Int) ≤ (l.length : Int) ∧ (l.length : Int) ≤ (cap : Int) := by omega
    simp [Instr.sliceAt, Instr.slice, run_underlying Try.underlying25, Instr.sliceBounds, Instr.sliceBound, asIntOf, hsz, hb, addr_add]
    intro hq; omega
section
variable {w : World} {ops : Array Oper} {rest : List Oper} {o : Oper} {a : Act} {KK : Act → World → Prop} {Q : Exit → Act → World → Prop} {v : Value} {g d k : Nat} {l : List Nat}
theorem wp_hi (x y : Operand) (ho : o.op = Op.slice 25 x none (some y) none) (hx : a.eval x = v) (hy : a.eval y = .int .i64 (k : Nat)) (h : RL w v d l) (hk : k ≤ l.length) (hK : ∀ v', RL w v' d (l.take k) → KK (a.put o.dst v') w) : o.wp Try.prog a w KK Q := by
  obtain ⟨v', hrun, h1⟩ := run_hi h hk
  unfold Oper.wp
  simp [execOp, ho, hx, hy, hrun, Result.andThen]
  exact hK v' h1
theorem yield_hi {V : World} {v' : Value} (hrun : ∀ V, (Instr.sliceAt 25 v none (some (.int .i64 (k : Nat))) none).run Try.prog V = .ok v' V) (x y : Operand) (ho : o.op = Op.slice 25 x none (some y) none) (hx : a.eval x = v) (hy : a.eval y = .int .i64 (k : Nat)) : (execOp a.eval o).run Try.prog V = .ok (.value v') V := by
  simp [execOp, ho, hx, hy, hrun]
theorem wpList_hi (hgd : o.guard = none) (x y : Operand) (ho : o.op = Op.slice 25 x none (some y) none) (hx : a.eval x = v) (hy : a.eval y = .int .i64 (k : Nat)) (h : RL w v d l) (hk : k ≤ l.length) (hK : ∀ v', RL w v' d (l.take k) → wpList Try.prog ops Q rest (a.put o.dst v') w) : wpList Try.prog ops Q (o :: rest) a w :=
  wpList_plain hgd fun _ hKK => wp_hi x y ho hx hy h hk fun v' h1 => hKK _ _ (hK v' h1)
theorem wpList_lo (hgd : o.guard = none) (x y : Operand) (ho : o.op = Op.slice 25 x (some y) none none) (hx : a.eval x = v) (hy : a.eval y = .int .i64 (k : Nat)) (h : RL w v d l) (hk : k ≤ l.length) (hK : ∀ v', RL w v' d (l.drop k) → wpList Try.prog ops Q rest (a.put o.dst v') w) : wpList Try.prog ops Q (o :: rest) a w := by
  refine wpList_plain hgd fun _ hKK => ?_
  obtain ⟨v', hrun, h1⟩ := run_lo h hk
  unfold Oper.wp
  simp [execOp, ho, hx, hy, hrun, Result.andThen]
  exact hKK _ _ (hK v' h1)
theorem wpList_cut (hgd : o.guard = none) (x y z : Operand) (ho : o.op = Op.slice 25 x none (some y) (some z)) (hx : a.eval x = v) (hy : a.eval y = .int .i64 (l.length : Nat)) (hz : a.eval z = .int .i64 (l.length : Nat)) (h : WA w v g l) (hK : ∀ v', WA w v' g l → wpList Try.prog ops Q rest (a.put o.dst v') w) : wpList Try.prog ops Q (o :: rest) a w := by
  refine wpList_plain hgd fun _ hKK => ?_
  obtain ⟨v', hrun, h1⟩ := run_cut h
  unfold Oper.wp
  simp [execOp, ho, hx, hy, hz, hrun, Result.andThen]
  exact hKK _ _ (hK v' h1)
end
end Go.Proofs.Ytjmgdhnjldimgaa
