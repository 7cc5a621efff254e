/- The document: its struct at operations; Bytes, Peek, Take. -/
import Derived.Test.YtjmgdhnjldimgaaPc
namespace Go.Proofs.Ytjmgdhnjldimgaa
open Go.RowKit
set_option linter.unusedVariables false
set_option linter.unusedSimpArgs false
set_option maxRecDepth 100000
theorem fifoC_size (K : Fi) (v : Value) : (fifoC K v).size = 4 := rfl
theorem info28 (K : Fi) (v : Value) : (Try.prog.info? 28).map (·.size) = some (fifoC K v).size := by show _ = some 4; kernel_rfl
theorem zinfo28 : (Try.prog.info? 28).map (fun i => (i.zero, i.size)) = some (some (.agg zeroC), 4) := by kernel_rfl
section
variable {w : World} {ops : Array Oper} {rest : List Oper} {o : Oper} {a : Act} {Q : Exit → Act → World → Prop}
theorem wpList_load28 (hg : o.guard = none) (x : Operand) (ho : o.op = .load 28 x) (b : Nat) (K : Fi) (va : Option Addr) (vn vc : Nat) (hx : a.eval x = .pointer (some ⟨b, 0, none⟩)) (hb : Box 28 w b (fifoC K (.slice va vn vc)))
    (h : wpList Try.prog ops Q rest (a.put o.dst (.agg (fifoC K (.slice va vn vc)))) w) : wpList Try.prog ops Q (o :: rest) a w :=
  wpList_load_row hg 28 x ho b hx 28 _ (0, 0) _ hb Try.underlying28 rfl (info28 K _) h
theorem wpList_load28G (hw : Region.wanted o (yielded ops a.tmps) = true) (x : Operand) (ho : o.op = .load 28 x) (b : Nat) (K : Fi) (va : Option Addr) (vn vc : Nat) (hx : a.eval x = .pointer (some ⟨b, 0, none⟩)) (hb : Box 28 w b (fifoC K (.slice va vn vc)))
    (h : wpList Try.prog ops Q rest (a.put o.dst (.agg (fifoC K (.slice va vn vc)))) w) : wpList Try.prog ops Q (o :: rest) a w :=
  wpList_want hw fun KK hKK => wp_load_row 28 x ho b hx 28 _ (0, 0) _ hb Try.underlying28 rfl (info28 K _) (hKK _ _ h)
theorem wpList_store28 (hg : o.guard = none) (x y : Operand) (ho : o.op = .store 28 x y) (b : Nat) (K : Fi) (va : Option Addr) (vn vc : Nat) (old : Array Value) (hx : a.eval x = .pointer (some ⟨b, 0, none⟩)) (hy : a.eval y = .agg (fifoC K (.slice va vn vc))) (hb : Box 28 w b old) (hs : old.size = 4)
    (h : ∀ W, Box 28 W b (fifoC K (.slice va vn vc)) → Upon b w W → wpList Try.prog ops Q rest (a.put o.dst undef) W) : wpList Try.prog ops Q (o :: rest) a w :=
  wpList_store_row hg 28 x y ho b (fifoC K (.slice va vn vc)) hx hy 28 old hb (info28 K _) (by rw [fifoC_size]; exact hs) (fifoC_one K va vn vc) (h _ (setRow_heap w b old _ 28 (0, 0) hb) (upon_row (Upon.refl _ _) _))
end
section
variable {w : World} {o : Oper} {a : Act} {KK : Act → World → Prop} {Q : Exit → Act → World → Prop}
theorem wp_store28 (x y : Operand) (ho : o.op = .store 28 x y) (b : Nat) (K : Fi) (va : Option Addr) (vn vc : Nat) (old : Array Value) (hx : a.eval x = .pointer (some ⟨b, 0, none⟩)) (hy : a.eval y = .agg (fifoC K (.slice va vn vc))) (hb : Box 28 w b old) (hs : old.size = 4)
    (h : ∀ W, Box 28 W b (fifoC K (.slice va vn vc)) → Upon b w W → KK (a.put o.dst undef) W) : o.wp Try.prog a w KK Q :=
  wp_store_row 28 x y ho b (fifoC K (.slice va vn vc)) hx hy 28 old hb (info28 K _) (by rw [fifoC_size]; exact hs) (fifoC_one K va vn vc) (h _ (setRow_heap w b old _ 28 (0, 0) hb) (upon_row (Upon.refl _ _) _))
theorem wp_load28 (x : Operand) (ho : o.op = .load 28 x) (b : Nat) (K : Fi) (va : Option Addr) (vn vc : Nat) (hx : a.eval x = .pointer (some ⟨b, 0, none⟩)) (hb : Box 28 w b (fifoC K (.slice va vn vc))) (h : KK (a.put o.dst (.agg (fifoC K (.slice va vn vc)))) w) : o.wp Try.prog a w KK Q :=
  wp_load_row 28 x ho b hx 28 _ (0, 0) _ hb Try.underlying28 rfl (info28 K _) h
end
theorem load28 {w : World} {b : Nat} {K : Fi} {va : Option Addr} {vn vc : Nat} (h : Box 28 w b (fifoC K (.slice va vn vc))) : (loadVar 28 ⟨b, 0, none⟩).run Try.prog w = .ok (.agg (fifoC K (.slice va vn vc))) w := run_loadVar_row w b 28 28 _ (0, 0) _ h Try.underlying28 rfl (info28 K _)
theorem yield28 {w : World} {o : Oper} {a : Act} {b : Nat} {K : Fi} {va : Option Addr} {vn vc : Nat} (hw : Box 28 w b (fifoC K (.slice va vn vc))) (x : Operand) (hop : o.op = Op.load 28 x) (hx : a.eval x = .pointer (some ⟨b, 0, none⟩)) : (execOp a.eval o).run Try.prog w = .ok (.value (.agg (fifoC K (.slice va vn vc)))) w := by
  simp only [execOp, hop, hx, Instr.loadAt, Instr.sureAddr, Sem.run_bind, Sem.run_pure, Result.andThen_ok, load28 hw]
theorem results1 {fn : Func} {p : Tmp} (h : fn.results = #[.cell p 28]) (tmps : Array Value) (w : World) (b : Nat) (K : Fi) (va : Option Addr) (vn vc : Nat) (hp : tmps.getD p undef = .pointer (some ⟨b, 0, none⟩)) (h1 : Box 28 w b (fifoC K (.slice va vn vc))) : (results fn tmps).run Try.prog w = .ok (.agg (fifoC K (.slice va vn vc))) w := by
  have hp' : tmps[p]?.getD undef = .pointer (some ⟨b, 0, none⟩) := by simpa using hp
  simp [results, h, hp', asAddr, load28 h1]
theorem results2 {fn : Func} {p t : Tmp} (h : fn.results = #[.cell p 28, .tmp t]) (tmps : Array Value) (w : World) (b : Nat) (K : Fi) (va : Option Addr) (vn vc : Nat) (hp : tmps.getD p undef = .pointer (some ⟨b, 0, none⟩)) (h1 : Box 28 w b (fifoC K (.slice va vn vc))) : (results fn tmps).run Try.prog w = .ok (.tuple #[.agg (fifoC K (.slice va vn vc)), tmps.getD t undef]) w := by
  have hp' : tmps[p]?.getD undef = .pointer (some ⟨b, 0, none⟩) := by simpa using hp
  simp [results, h, hp', asAddr, load28 h1]
theorem results3 {fn : Func} {p t u : Tmp} (h : fn.results = #[.cell p 28, .tmp t, .tmp u]) (tmps : Array Value) (w : World) (b : Nat) (K : Fi) (va : Option Addr) (vn vc : Nat) (hp : tmps.getD p undef = .pointer (some ⟨b, 0, none⟩)) (h1 : Box 28 w b (fifoC K (.slice va vn vc))) : (results fn tmps).run Try.prog w = .ok (.tuple #[.agg (fifoC K (.slice va vn vc)), tmps.getD t undef, tmps.getD u undef]) w := by
  have hp' : tmps[p]?.getD undef = .pointer (some ⟨b, 0, none⟩) := by simpa using hp
  simp [results, h, hp', asAddr, load28 h1]
theorem results3b {fn : Func} {p t u : Tmp} (h : fn.results = #[.tmp t, .cell p 28, .tmp u]) (tmps : Array Value) (w : World) (b : Nat) (K : Fi) (va : Option Addr) (vn vc : Nat) (hp : tmps.getD p undef = .pointer (some ⟨b, 0, none⟩)) (h1 : Box 28 w b (fifoC K (.slice va vn vc))) : (results fn tmps).run Try.prog w = .ok (.tuple #[tmps.getD t undef, .agg (fifoC K (.slice va vn vc)), tmps.getD u undef]) w := by
  have hp' : tmps[p]?.getD undef = .pointer (some ⟨b, 0, none⟩) := by simpa using hp
  simp [results, h, hp', asAddr, load28 h1]
/-- two boxes of the document's calls: what came in, what is told -/
def Tw (w W : World) (c d : Array Value) : Prop := Box 28 W w.heap.size c ∧ Box 28 W (w.heap.size + 1) d ∧ Below w.heap.size w W
section
variable {w W W' : World} {c d c2 : Array Value}
theorem Tw.step (h : Tw w W c d) (hb : Below W.heap.size W W') : Tw w W' c d := ⟨h.1.step hb, h.2.1.step hb, h.2.2.trans (hb.mono h.2.2.size)⟩
theorem Tw.set (h : Tw w W c d) (i : Nat) (v : Value) : Tw w (W.setCell ⟨w.heap.size, i, none⟩ v) (c.setIfInBounds i v) d := ⟨h.1.set i v, h.2.1.other i v (by omega), h.2.2.setCell (Nat.le_refl _) v⟩
theorem Tw.own (h : Tw w W c d) (hx : Box 28 W' w.heap.size c2) (hu : Upon w.heap.size W W') : Tw w W' c2 d := ⟨hx, hu.box h.2.1 (by omega), h.2.2.trans (hu.below (Nat.le_refl _) h.2.2.size)⟩
theorem Tw.res (h : Tw w W c d) (hx : Box 28 W' (w.heap.size + 1) c2) (hu : Upon (w.heap.size + 1) W W') : Tw w W' c c2 := ⟨hu.box h.1 (by omega), hx, h.2.2.trans (hu.below (by omega) h.2.2.size)⟩
theorem Tw.lt (h : Tw w W c d) : w.heap.size + 1 < W.heap.size := h.2.1.lt
end
theorem wpList_enter2 {w : World} {ops : Array Oper} {rest : List Oper} {o1 o2 : Oper} {a : Act} {Q : Exit → Act → World → Prop} (K : Fi) (va : Option Addr) (vn vc : Nat) (x : Operand) (hg1 : o1.guard = none) (hop1 : o1.op = Op.box 28 x) (hx : a.eval x = .agg (fifoC K (.slice va vn vc))) (hg2 : o2.guard = none) (hop2 : o2.op = Op.alloc 28)
    (h : ∀ W, Tw w W (fifoC K (.slice va vn vc)) zeroC → wpList Try.prog ops Q rest ((a.put o1.dst (.pointer (some ⟨w.heap.size, 0, none⟩))).put o2.dst (.pointer (some ⟨w.heap.size + 1, 0, none⟩))) W) : wpList Try.prog ops Q (o1 :: o2 :: rest) a w := by
  refine wpList_box_agg 28 (fifoC K (.slice va vn vc)) x hg1 hop1 hx ?_
  refine wpList_alloc_zero 28 zeroC 4 zinfo28 hg2 hop2 ?_
  rw [show (w.alloc (.cells (fifoC K (.slice va vn vc)) 28)).heap.size = w.heap.size + 1 from by simp]
  have b1 : Below w.heap.size w (w.alloc (.cells (fifoC K (.slice va vn vc)) 28)) := (Below.refl _ _).alloc (Nat.le_refl _) _
  refine h _ ⟨(Box.new 28 w _).alloc _, ?_, b1.alloc b1.size _⟩
  have := Box.new 28 (w.alloc (.cells (fifoC K (.slice va vn vc)) 28)) zeroC
  rwa [show (w.alloc (.cells (fifoC K (.slice va vn vc)) 28)).heap.size = w.heap.size + 1 from by simp] at this

theorem below_drewN (w : World) (q : Nat) : Below w.heap.size w (w.drewN q) := ⟨rfl, rfl, rfl, Nat.le_refl _, fun _ _ => rfl⟩
theorem get_cast {l : List Nat} {k : Nat} (h : k < l.length) : l[k]? = some (l[k]?.getD 0) := by rw [List.getElem?_eq_getElem h]; rfl
theorem take_eq_of {l1 l2 : List Nat} {k : Nat} (h : l1.take k = l2.take k) (h1 : l1.length = k) (h2 : l2.length = k) : l1 = l2 := by
  rwa [List.take_of_length_le (by omega), List.take_of_length_le (by omega)] at h
theorem take_next {l1 l2 : List Nat} {k : Nat} (h : l1.take k = l2.take k) (e : l1[k]? = l2[k]?) : l1.take (k + 1) = l2.take (k + 1) := by
  rw [List.take_add_one, List.take_add_one, h, e]
set_option maxHeartbeats 1000000 in
theorem bytes_any {w : World} {v1 v2 : Value} {d1 d2 : Nat} {l1 l2 : List Nat} (r1 : RL w v1 d1 l1) (r2 : RL w v2 d2 l2) (hn : l1.length ≤ 1000000) :
    Calls Try.prog 14 #[v1, v2] w fun e w' => e = .returned (.bool (decide (l1 = l2))) ∧ Below w.heap.size w w' := by
  obtain ⟨a1, c1, rfl, _, _, h1⟩ := r1
  obtain ⟨a2, c2, rfl, _, _, h2⟩ := r2
  by_cases hlen : l1.length = l2.length
  · obtain ⟨n, hnn⟩ : ∃ n, l1.length = n := ⟨_, rfl⟩
    have HL : Hid (l1.length = n ∧ l2.length = n) := ⟨hnn, by omega⟩
    by_cases h0 : n = 0
    · have e1 : l1 = [] := List.eq_nil_of_length_eq_zero (by omega)
      have e2 : l2 = [] := List.eq_nil_of_length_eq_zero (by omega)
      subst e1 e2
      clear h1 h2 hlen HL hnn h0 hn
      have : ([] : List Nat).length = 0 := rfl
      rw [this]
      go_enter Try.func14, Try.ntmps14
      go_wp2
      go_loopw [5] (fun i wr => i = .int .i64 0 ∧ ∃ q, wr = w.drewN q) (fun _ _ => 0)
      case atStart => exact ⟨rfl, 0, rfl⟩
      case round =>
        obtain ⟨rfl, q, rfl⟩ := hrel
        go_wp2
        go_ret
        exact ⟨rfl, below_drewN w q⟩
    · have q1 : l1 ≠ [] := by rintro rfl; simp at hnn; omega
      have q2 : l2 ≠ [] := by intro e; rw [e, List.length_nil] at hlen; omega
      obtain ⟨o1, rfl, y1⟩ := h1.resolve_left q1
      obtain ⟨o2, rfl, y2⟩ := h2.resolve_left q2
      have H : Hid (Lies w d1 o1 l1 ∧ Lies w d2 o2 l2) := ⟨y1, y2⟩
      rw [← hlen, hnn]
      rw [hnn] at hn
      clear h1 h2 y1 y2 q1 q2 hlen hnn
      go_enter Try.func14, Try.ntmps14
      go_wp2
      go_loopw [5] (fun i wr => ∃ k : Nat, k ≤ n ∧ i = .int .i64 k ∧ l1.take k = l2.take k ∧ ∃ q, wr = w.drewN q) (fun i _ => n - (intOf i).toNat)
      case atStart => exact ⟨0, by omega, rfl, by simp, 0, rfl⟩
      case round =>
        obtain ⟨k, hk, rfl, hall, q, rfl⟩ := hrel
        have HA : Hid (l1.take k = l2.take k) := hall
        clear hall
        by_cases hlt : k < n
        · obtain ⟨x, hx⟩ : ∃ x, l1[k]? = some x := ⟨_, get_cast (by have := HL.out.1; omega)⟩
          obtain ⟨y, hy⟩ : ∃ y, l2[k]? = some y := ⟨_, get_cast (by have := HL.out.2; omega)⟩
          have h1 := H.out.1 k x hx
          have h2 := H.out.2 k y hy
          have HX : Hid (l1[k]? = some x ∧ l2[k]? = some y) := ⟨hx, hy⟩
          clear hx hy
          have hkL : (k : Int) < n := by omega
          by_cases he : x = y
          · have he2 : ((x : Int) == (y : Int)) = true := by simp; omega
            have HE : Hid (x = y) := he
            clear he
            go_wp2
            go_quiet (fail)
            go_wp2
            go_roundw
            case rel => exact ⟨k + 1, by omega, by go_num, take_next HA.out (by rw [HX.out.1, HX.out.2, HE.out]), _, rfl⟩
            case measure => simp [intOf]; omega
          · have he2 : ((x : Int) == (y : Int)) = false := by simp; omega
            have he3 : ¬ (x : Int) = (y : Int) := by omega
            have HE : Hid (decide (l1 = l2) = false) := by
              show decide (l1 = l2) = false
              rw [decide_eq_false_iff_not]
              rintro rfl
              have := HX.out.1.symm.trans HX.out.2
              simp at this
              exact he this
            go_wp2
            go_quiet (fail)
            go_wp2
            go_ret
            exact ⟨ret_bool HE.out.symm, ⟨rfl, rfl, rfl, Nat.le_refl _, fun _ _ => rfl⟩⟩
        · have HE : Hid (decide (l1 = l2) = true) := by
            have hkn : k = n := by omega
            subst hkn
            exact decide_eq_true (take_eq_of HA.out HL.out.1 HL.out.2)
          go_wp2
          go_ret
          exact ⟨ret_bool HE.out.symm, below_drewN w q⟩
  · have HE : Hid (decide (l1 = l2) = false) := by
      show decide (l1 = l2) = false
      rw [decide_eq_false_iff_not]
      rintro rfl
      exact hlen rfl
    have n1 : ((l1.length : Int) == (l2.length : Int)) = false := by simp; omega
    have n2 : ¬ (l1.length : Int) = (l2.length : Int) := by omega
    clear h1 h2 hn
    go_enter Try.func14, Try.ntmps14
    go_wp2
    go_ret
    exact ⟨ret_bool HE.out.symm, Below.refl _ _⟩
/-- one byte in a row of its own -/
theorem RL.one {w : World} {g x : Nat} (h : Box 5 w g #[.int .u8 (x : Nat)]) : RL w (.slice (some ⟨g, 0, none⟩) 1 1) g [x] := ⟨_, 1, rfl, Nat.le_refl _, by omega, .inr ⟨0, rfl, fun i y hi => by
  cases i with
  | zero => simp at hi; subst hi; exact cellOf h 0 _ rfl
  | succ i => simp at hi⟩⟩
theorem tookL_next (K : Fi) (n : Int) (k x : Nat) (h1 : (k : Int) < n) (h2 : K.l[k]? = some x) : K.l.take k ++ [x] = K.l.take (k + 1) := by
  rw [List.take_add_one, h2]; rfl
set_option maxHeartbeats 2000000 in
theorem dpeek_any {w : World} {K : Fi} {va : Option Addr} {vc d : Nat} (hK : K.Ok) (hr : RL w (.slice va K.l.length vc) d K.l) (n : Int) :
    Calls Try.prog 27 #[.agg (fifoC K (.slice va K.l.length vc)), .int .i64 n] w fun e w' => ∃ v' d', e = .returned v' ∧ RL w' v' d' (tookL K n) ∧ w.heap.size ≤ d' ∧ Below w.heap.size w w' := by
  have hle := hK.len
  have hrm := hK.rm.2
  have hm : tookL K n = K.l.take (tookN K n) := rfl
  obtain ⟨m, hmm⟩ : ∃ m, tookN K n = m := ⟨_, rfl⟩
  have hmn : m = min n.toNat K.l.length := by rw [← hmm]; rfl
  rw [hmm] at hm
  have b1 : Below w.heap.size w (w.alloc (.cells (fifoC K (.slice va K.l.length vc)) 28)) := (Below.refl _ _).alloc (Nat.le_refl _) _
  have H : Hid (RL w (.slice va K.l.length vc) d K.l ∧ tookL K n = K.l.take m) := ⟨hr, hm⟩
  have X : Hid (Box 28 (w.alloc (.cells (fifoC K (.slice va K.l.length vc)) 28)) w.heap.size (fifoC K (.slice va K.l.length vc)) ∧ Below w.heap.size w (w.alloc (.cells (fifoC K (.slice va K.l.length vc)) 28))) := ⟨Box.new 28 w _, b1⟩
  clear b1 hm hmm hr hK
  obtain ⟨z, hz⟩ : ∃ z, K.l.length = z := ⟨_, rfl⟩
  rw [hz] at hle hmn
  have HZ : Hid (K.l.length = z) := hz
  rw [hz] at H X
  rw [hz]
  clear hz
  go_enter Try.func27, Try.ntmps27
  go_upto_region 0 with fail
  refine wp_region_list ?_
  refine wpList_box_agg 28 _ _ rfl rfl rfl ?_
  generalize w.alloc (.cells (fifoC K (.slice va z vc)) 28) = W at *
  go_wp2
  go_loopw [5, 6] (fun v i wr => ∃ k g, k ≤ m ∧ i = .int .i64 ((k : Nat) : Int) ∧ WA wr v g (K.l.take k) ∧ w.heap.size < g ∧ Box 28 wr w.heap.size (fifoC K (.slice va z vc)) ∧ Below w.heap.size w wr) (fun _ i _ => m - (intOf i).toNat)
  case atStart => exact ⟨0, w.heap.size + 1, Nat.zero_le _, rfl, by rw [List.take_zero]; exact WA.nil _ _, Nat.lt_succ_self _, X.out.1, X.out.2⟩
  case round =>
    obtain ⟨k, g, hk, rfl, hwa, hg, hbx, hb⟩ := hrel
    clear X
    have hform := hwa.reads.form
    rw [List.length_take, HZ.out, show min k z = k from by omega] at hform
    obtain ⟨a1, cp1, hv⟩ := hform
    subst hv
    have c0 := hbx.cell 0 (.slice va z vc) rfl
    have Y : Hid (WA wr (.slice a1 k cp1) g (K.l.take k) ∧ Box 28 wr w.heap.size (fifoC K (.slice va z vc)) ∧ Below w.heap.size w wr) := ⟨hwa, hbx, hb⟩
    have hsz : w.heap.size < wr.heap.size := hbx.lt
    clear hwa hbx hb
    by_cases hlt : k < m
    · have n1 : decide ((k : Int) < n) = true := by simp; omega
      have n2 : decide ((k : Int) < (z : Int)) = true := by simp; omega
      have n3 : decide (k < z) = true := by simp; omega
      obtain ⟨x, hx⟩ : ∃ x, K.l[k]? = some x := ⟨_, get_cast (by have := HZ.out; omega)⟩
      obtain ⟨av, cv, e1, _, _, hR⟩ := H.out.1.step Y.out.2.2
      simp only [Value.slice.injEq] at e1
      obtain ⟨rfl, -, rfl⟩ := e1
      obtain ⟨off, rfl, hl⟩ := hR.resolve_left (by intro e; rw [e] at hx; simp at hx)
      have cx := hl k x hx
      have HX : Hid (K.l[k]? = some x) := hx
      clear hl hx hR
      have hkz : (k : Int) < z := by omega
      go_upto_region 5 with fail
      refine wp_region_list ?_
      (refine wpList_step (fun KK hKK => ?_); go_simp; refine hKK _ _ ?_; clear hKK KK)
      (refine wpList_step (fun KK hKK => ?_); go_simp; refine hKK _ _ ?_; clear hKK KK)
      (refine wpList_step (fun KK hKK => ?_); go_simp; refine hKK _ _ ?_; clear hKK KK)
      (refine wpList_step (fun KK hKK => ?_); go_simp; refine hKK _ _ ?_; clear hKK KK)
      (refine wpList_step (fun KK hKK => ?_); go_simp; refine hKK _ _ ?_; clear hKK KK)
      (refine wpList_step (fun KK hKK => ?_); go_simp; refine hKK _ _ ?_; clear hKK KK)
      (refine wpList_step (fun KK hKK => ?_); go_simp; refine hKK _ _ ?_; clear hKK KK)
      have b1 : Below wr.heap.size wr (wr.alloc (.cells #[.int .u8 (x : Nat)] 5)) := (Below.refl _ _).alloc (Nat.le_refl _) _
      have Z : Hid (RL (wr.alloc (.cells #[.int .u8 (x : Nat)] 5)) (.slice (some ⟨wr.heap.size, 0, none⟩) 1 1) wr.heap.size [x] ∧ WA (wr.alloc (.cells #[.int .u8 (x : Nat)] 5)) (.slice a1 k cp1) g (K.l.take k) ∧ Box 28 (wr.alloc (.cells #[.int .u8 (x : Nat)] 5)) w.heap.size (fifoC K (.slice (some ⟨d, off, none⟩) z vc)) ∧ Below w.heap.size w (wr.alloc (.cells #[.int .u8 (x : Nat)] 5))) := ⟨RL.one (Box.new 5 wr _), Y.out.1.step b1, Y.out.2.1.step b1, Y.out.2.2.trans (b1.mono (by omega))⟩
      clear b1 cx c0 Y
      have hsw : wr.heap.size < (wr.alloc (.cells #[.int .u8 (x : Nat)] 5)).heap.size := by simp
      generalize wr.alloc (.cells #[.int .u8 (x : Nat)] 5) = w1 at *
      generalize wr.heap.size = q at *
      refine wpList_append_wa rfl _ _ rfl rfl rfl Z.out.2.1 Z.out.1 (by rw [List.length_take]; show _ + 1 ≤ _; omega) ?_
      intro v2 w2 g2 h1 h2 h3
      have V : Hid (WA w2 v2 g2 (K.l.take (k + 1)) ∧ w.heap.size < g2 ∧ Box 28 w2 w.heap.size (fifoC K (.slice (some ⟨d, off, none⟩) z vc)) ∧ Below w.heap.size w w2) := by
        rw [tookL_next K n k x (by simpa using n1) HX.out] at h1
        exact ⟨h1, by omega, h2.box Z.out.2.2.1 (by omega), Z.out.2.2.2.trans (h2.below (by omega) (by omega))⟩
      clear h1 h2 h3 Z
      have hform2 := V.out.1.reads.form
      rw [List.length_take, HZ.out, show min (k + 1) z = k + 1 from by omega] at hform2
      obtain ⟨a2, cp2, hv⟩ := hform2
      subst hv
      go_wp2
      exact ⟨⟨k + 1, g2, by omega, by go_num, V.out⟩, by simp [intOf]; omega⟩
    · have HM : Hid (tookL K n = K.l.take k) := by have := H.out.2; rwa [show m = k from by omega] at this
      by_cases h1 : (k : Int) < n
      · have n1 : decide ((k : Int) < n) = true := by simp; omega
        have n2 : decide ((k : Int) < (z : Int)) = false := by simp; omega
        have n3 : decide (k < z) = false := by simp; omega
        clear H
        go_wp2
        go_ret
        first | exact ⟨_, g, rfl, by rw [HM.out]; exact Y.out.1.reads, Nat.le_of_lt hg, Y.out.2.2⟩ | exact ⟨_, rfl, g, by rw [HM.out]; exact Y.out.1.reads, Nat.le_of_lt hg, Y.out.2.2⟩
      · have n1 : decide ((k : Int) < n) = false := by simp; omega
        clear H
        go_wp2
        go_ret
        first | exact ⟨_, g, rfl, by rw [HM.out]; exact Y.out.1.reads, Nat.le_of_lt hg, Y.out.2.2⟩ | exact ⟨_, rfl, g, by rw [HM.out]; exact Y.out.1.reads, Nat.le_of_lt hg, Y.out.2.2⟩
set_option maxHeartbeats 2000000 in
theorem dtake_any {w : World} {K : Fi} {va : Option Addr} {vc d : Nat} (hK : K.Ok) (hr : RL w (.slice va K.l.length vc) d K.l) (n : Int) :
    Calls Try.prog 26 #[.agg (fifoC K (.slice va K.l.length vc)), .int .i64 n] w fun e w' => ∃ v2 c2 v' d', e = .returned (.tuple #[.agg (fifoC (takeK K n) (.slice v2 (takeK K n).l.length c2)), v']) ∧ RL w' v' d' (tookL K n) ∧ RL w' (.slice v2 (takeK K n).l.length c2) d (takeK K n).l ∧ w.heap.size ≤ d' ∧ Below w.heap.size w w' := by
  have hle := hK.len
  have hrm := hK.rm.2
  have hk := tookL_length K n
  have hkl : tookN K n ≤ K.l.length := Nat.min_le_right _ _
  have H : Hid (K.Ok ∧ RL w (.slice va K.l.length vc) d K.l) := ⟨hK, hr⟩
  have HLd : Hid ((takeK K n).l = K.l.drop (tookN K n) ∧ (takeK K n).taken = (K.taken + tookN K n) % 18446744073709551616) := ⟨rfl, rfl⟩
  have HF : Hid (∀ v, #[v, Value.int .i64 (K.room : Nat), .int .u64 (K.lost : Nat), .int .u64 ((takeK K n).taken : Nat)] = fifoC (takeK K n) v) := fun _ => rfl
  clear hK hr
  generalize hkk : tookN K n = k at *
  go_enter Try.func26, Try.ntmps26
  go_upto_region 0 with fail
  refine wp_region_list ?_
  refine wpList_enter2 K _ _ _ _ rfl rfl rfl rfl rfl ?_
  intro W hT
  have T0 : Hid (Tw w W (fifoC K (.slice va K.l.length vc)) zeroC) := hT
  clear hT
  go_upto_region 1 with fail
  refine wp_region_list ?_
  refine wpList_load28 rfl _ rfl w.heap.size K _ _ _ rfl T0.out.1 ?_
  (refine wpList_step (fun KK hKK => ?_); go_simp; refine hKK _ _ ?_; clear hKK KK)
  refine wpList_step (fun KK hKK => ?_)
  go_simp
  refine (dpeek_any H.out.1 (H.out.2.step T0.out.2.2) n).mono ?_
  rintro e w1 ⟨v1, d1, rfl, h1, hd1, h2⟩
  have hdn : w.heap.size ≤ d1 := by have := T0.out.lt; omega
  have hd1 : tookL K n = [] ∨ d1 ≠ w.heap.size := .inr (by have := T0.out.lt; omega)
  have hd2 : (takeK K n).l = [] ∨ d ≠ w.heap.size := by
    by_cases q : (takeK K n).l = []
    · exact .inl q
    · refine .inr (Nat.ne_of_lt (H.out.2.old ?_))
      intro e
      rw [HLd.out.1, e] at q
      simp at q
  have hd3 : tookL K n = [] ∨ d1 ≠ w.heap.size + 1 := .inr (by have := T0.out.lt; omega)
  have hd4 : (takeK K n).l = [] ∨ d ≠ w.heap.size + 1 := by
    by_cases q : (takeK K n).l = []
    · exact .inl q
    · have : d < w.heap.size := H.out.2.old (by intro e; rw [HLd.out.1, e] at q; simp at q)
      exact .inr (by omega)
  have D : Hid ((tookL K n = [] ∨ d1 ≠ w.heap.size) ∧ ((takeK K n).l = [] ∨ d ≠ w.heap.size) ∧ (tookL K n = [] ∨ d1 ≠ w.heap.size + 1) ∧ ((takeK K n).l = [] ∨ d ≠ w.heap.size + 1)) := ⟨hd1, hd2, hd3, hd4⟩
  clear hd1 hd2 hd3 hd4
  have T1 : Hid (Tw w w1 (fifoC K (.slice va K.l.length vc)) zeroC ∧ RL w1 v1 d1 (tookL K n)) := ⟨T0.out.step h2, h1⟩
  clear h1 h2 T0
  have hform := T1.out.2.form
  rw [hk] at hform
  obtain ⟨a1, cp1, hv⟩ := hform
  subst hv
  refine hKK _ _ ?_
  clear hKK KK
  have c0 := T1.out.1.1.cell 0 (.slice va K.l.length vc) rfl
  have f0 := T1.out.1.1.frozen 0
  go_upto_region 2 with fail
  refine wp_region_list ?_
  (refine wpList_step (fun KK hKK => ?_); go_simp; refine hKK _ _ ?_; clear hKK KK)
  (refine wpList_step (fun KK hKK => ?_); go_simp; refine hKK _ _ ?_; clear hKK KK)
  (refine wpList_step (fun KK hKK => ?_); go_simp; refine hKK _ _ ?_; clear hKK KK)
  (refine wpList_step (fun KK hKK => ?_); go_simp; refine hKK _ _ ?_; clear hKK KK)
  refine wpList_lo (k := k) rfl _ _ rfl rfl rfl (H.out.2.step T1.out.1.2.2) hkl ?_
  intro v2 h2
  have R2 : Hid (RL w1 v2 d (takeK K n).l) := by rw [HLd.out.1]; exact h2
  clear h2
  have hform2 := R2.out.form
  obtain ⟨ln, hln⟩ : ∃ ln, (takeK K n).l.length = ln := ⟨_, rfl⟩
  have HLn : Hid ((takeK K n).l.length = ln) := hln
  rw [hln] at hform2
  clear hln
  obtain ⟨a2, cp2, hv⟩ := hform2
  subst hv
  go_upto_region 3 with fail
  have T2 : Hid (Tw w (w1.setCell ⟨w.heap.size, 0, none⟩ (.slice a2 ln cp2)) (fifoC K (.slice a2 ln cp2)) zeroC ∧ RL (w1.setCell ⟨w.heap.size, 0, none⟩ (.slice a2 ln cp2)) (.slice a1 k cp1) d1 (tookL K n) ∧ RL (w1.setCell ⟨w.heap.size, 0, none⟩ (.slice a2 ln cp2)) (.slice a2 ln cp2) d (takeK K n).l) := by
    have hu : Upon w.heap.size w1 (w1.setCell ⟨w.heap.size, 0, none⟩ (.slice a2 ln cp2)) := (Upon.refl _ _).set 0 _
    exact ⟨T1.out.1.set 0 _, T1.out.2.off hu D.out.1, R2.out.off hu D.out.2.1⟩
  clear T1 c0 f0 R2
  generalize w1.setCell ⟨w.heap.size, 0, none⟩ (.slice a2 ln cp2) = w2 at *
  have c3 := T2.out.1.1.cell 3 (.int .u64 (K.taken : Nat)) rfl
  have f3 := T2.out.1.1.frozen 3
  have e2 : IntKind.u64.wrap (k : Int) = (k : Int) := by rw [wrap_u64]; omega
  have e3 : IntKind.u64.wrap ((K.taken : Int) + (k : Int)) = ((takeK K n).taken : Int) := by rw [wrap_u64, HLd.out.2]; omega
  go_upto_region 4 with fail
  have T3 : Hid (Tw w (w2.setCell ⟨w.heap.size, 3, none⟩ (.int .u64 ((takeK K n).taken : Nat))) (fifoC (takeK K n) (.slice a2 ln cp2)) zeroC ∧ RL (w2.setCell ⟨w.heap.size, 3, none⟩ (.int .u64 ((takeK K n).taken : Nat))) (.slice a1 k cp1) d1 (tookL K n) ∧ RL (w2.setCell ⟨w.heap.size, 3, none⟩ (.int .u64 ((takeK K n).taken : Nat))) (.slice a2 ln cp2) d (takeK K n).l) := by
    have hu : Upon w.heap.size w2 (w2.setCell ⟨w.heap.size, 3, none⟩ (.int .u64 ((takeK K n).taken : Nat))) := (Upon.refl _ _).set 3 _
    exact ⟨T2.out.1.set 3 _, T2.out.2.1.off hu D.out.1, T2.out.2.2.off hu D.out.2.1⟩
  clear T2 c3 f3
  generalize w2.setCell ⟨w.heap.size, 3, none⟩ (.int .u64 ((takeK K n).taken : Nat)) = w3 at *
  refine wp_region_list ?_
  refine wpList_load28 rfl _ rfl w.heap.size (takeK K n) _ _ _ rfl T3.out.1.1 ?_
  (refine wpList_step (fun KK hKK => ?_); go_simp; refine hKK _ _ ?_; clear hKK KK)
  refine wpList_store28 rfl _ _ rfl (w.heap.size + 1) (takeK K n) _ _ _ zeroC rfl rfl T3.out.1.2.1 rfl ?_
  intro W9 B9 U9
  have T9 : Hid (Tw w W9 (fifoC (takeK K n) (.slice a2 ln cp2)) (fifoC (takeK K n) (.slice a2 ln cp2)) ∧ RL W9 (.slice a1 k cp1) d1 (tookL K n) ∧ RL W9 (.slice a2 ln cp2) d (takeK K n).l) := by
    exact ⟨T3.out.1.res B9 U9, T3.out.2.1.off U9 D.out.2.2.1, T3.out.2.2.off U9 D.out.2.2.2⟩
  clear B9 U9 T3
  go_wp2_with fail
  refine bodyPost_ret (v := .tuple #[.agg (fifoC (takeK K n) (.slice a2 ln cp2)), .slice a1 k cp1]) (results2 (p := 4) (t := 5) rfl _ _ (w.heap.size + 1) (takeK K n) _ _ _ rfl T9.out.1.2.1) rfl ?_
  rw [HLn.out]
  first | exact ⟨_, _, _, d1, rfl, T9.out.2.1, T9.out.2.2, hdn, T9.out.1.2.2⟩ | exact ⟨_, _, _, rfl, d1, T9.out.2.1, T9.out.2.2, hdn, T9.out.1.2.2⟩
end Go.Proofs.Ytjmgdhnjldimgaa
