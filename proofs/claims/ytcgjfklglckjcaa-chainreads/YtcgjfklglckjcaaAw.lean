/- The page's example. -/
import Derived.Test.YtcgjfklglckjcaaKb
import Derived.Test.YtcgjfklglckjcaaSt
import Derived.Test.YtcgjfklglckjcaaSa
namespace Go.Proofs.Ytcgjfklglckjcaa
open Go.RowKit Go.Maps
set_option linter.unusedVariables false
set_option linter.unusedSimpArgs false
set_option maxRecDepth 100000
theorem ex_one : K.walkR (fun _ => 0) 2147483648 2 0 false = ⟨21, [], 0, 0⟩ := by kernel_rfl
theorem ex_two : K.walkR (over (over (fun _ => 0) 2147483660 2 (byteAt 1)) 2147483648 8 (byteAt 2147483648)) 2147483648 2 0 false = ⟨152, [], 0, 0⟩ := by kernel_rfl
theorem ex_new : rightB 4096 = true := by decide
theorem ex_p1 : (widB 2 && inB (2147483660 : Nat) 2 2147483648 (4096 : Nat)) = true := by decide
theorem ex_p2 : (widB 8 && inB (2147483648 : Nat) 8 2147483648 (4096 : Nat)) = true := by decide
def Ak (w V : World) (F : Nat → Prop) (rb k : Nat) (M : Nat → Nat) (p : Nat) : Prop := RamAt V F rb 4096 k (.pointer none) M ∧ (∀ z, F z → w.heap.size ≤ z) ∧ Below w.heap.size w V ∧ V.heap[p]? = some (.cells #[.int .i64 2, .int .u64 2147483648, .int .u64 2147483904, .int .u64 2147484160] 25 (0, 0)) ∧ ¬ F p ∧ w.heap.size ≤ p
theorem Ak.below {w V V2 : World} {F : Nat → Prop} {rb k p : Nat} {M : Nat → Nat} (h : Ak w V F rb k M p) (hb : Below V.heap.size V V2) : Ak w V2 F rb k M p := ⟨h.1.below hb, h.2.1, below_to h.2.2.1 hb, below_box h.2.2.2.1 hb, h.2.2.2.2⟩
theorem Ak.step {w V V2 : World} {F F2 : Nat → Prop} {rb k k2 p : Nat} {M M2 : Nat → Nat} (h : Ak w V F rb k M p) (hr : RamAt V2 F2 rb 4096 k2 (.pointer none) M2) (hs : Step F V F2 V2) : Ak w V2 F2 rb k2 M2 p := by
  have hlt := (Array.getElem?_eq_some_iff.1 h.2.2.2.1).1
  have hw := h.2.2.1.size
  refine ⟨hr, hs.base hw h.2.1, h.2.2.1.trans (hs.below hw h.2.1), (hs.block p hlt h.2.2.2.2.1).trans h.2.2.2.1, fun hf => ?_, h.2.2.2.2.2⟩
  rcases hs.old p hf with h1 | h1
  · exact h.2.2.2.2.1 h1
  · omega
/-- a box beside it, kept by steps of the memory -/
theorem step_kept {F F2 : Nat → Prop} {V V2 : World} {q : Nat} {o : Obj} (h : V.heap[q]? = some o) (hs : Step F V F2 V2) (hq : ¬ F q) : V2.heap[q]? = some o ∧ ¬ F2 q := by
  have hlt := (Array.getElem?_eq_some_iff.1 h).1
  refine ⟨(hs.block q hlt hq).trans h, fun hf => ?_⟩
  rcases hs.old q hf with h1 | h1
  · exact hq h1
  · omega
set_option maxHeartbeats 2000000 in
theorem awake_any (w : World) : Calls Try.prog 9 #[] w fun e w' => e = .returned (.bool true) ∧ Below w.heap.size w w' := by
  have K30 : Hid (Calls Try.prog 30 #[.int .u64 4096] w fun e w' => ∃ rb F, e = .returned (.tuple #[.pointer (some ⟨rb, 0, none⟩), .int .i64 0]) ∧ RamAt w' F rb 4096 0 (.pointer none) (fun _ => 0) ∧ (∀ k, F k → w.heap.size ≤ k) ∧ Below w.heap.size w w') := new_yes 4096 ex_new w
  have K12 : Hid (∀ V F rb k p, Ak w V F rb k (fun _ => 0) p → Calls Try.prog 12 #[.pointer (some ⟨rb, 0, none⟩), .agg #[.int .i64 2, .int .u64 2147483648, .int .u64 2147483904, .int .u64 2147484160], .int .i64 0, .bool false] V fun e w' => ∃ a c, e = .returned (.tuple #[.agg #[.slice a 0 c, .int .u64 0, .int .u64 0], .int .i64 21]) ∧ Below V.heap.size V w') := by
    intro V F rb k p h
    have := K.walk_nil h.1 2 2147483648 2147483904 2147484160 (by omega) 0 false
    rw [ex_one] at this
    refine this.mono ?_
    rintro e w' ⟨v, he, hs, hb⟩
    obtain ⟨a, c, rfl⟩ := hs.form
    exact ⟨a, c, he, hb⟩
  have K122 : Hid (∀ V F rb k p, Ak w V F rb k (over (over (fun _ => 0) 2147483660 2 (byteAt 1)) 2147483648 8 (byteAt 2147483648)) p → Calls Try.prog 12 #[.pointer (some ⟨rb, 0, none⟩), .agg #[.int .i64 2, .int .u64 2147483648, .int .u64 2147483904, .int .u64 2147484160], .int .i64 0, .bool false] V fun e w' => ∃ a c, e = .returned (.tuple #[.agg #[.slice a 0 c, .int .u64 0, .int .u64 0], .int .i64 152]) ∧ Below V.heap.size V w') := by
    intro V F rb k p h
    have := K.walk_nil h.1 2 2147483648 2147483904 2147484160 (by omega) 0 false
    rw [ex_two] at this
    refine this.mono ?_
    rintro e w' ⟨v, he, hs, hb⟩
    obtain ⟨a, c, rfl⟩ := hs.form
    exact ⟨a, c, he, hb⟩
  have K31 : Hid (∀ V F rb p, Ak w V F rb 0 (fun _ => 0) p → Calls Try.prog 31 #[.pointer (some ⟨rb, 0, none⟩), .int .u64 2147483660, .int .i64 2, .int .u64 1] V fun e w' => e = .returned (.bool true) ∧ ∃ F', Ak w w' F' rb 8 (over (fun _ => 0) 2147483660 2 (byteAt 1)) p ∧ Step F V F' w') := by
    intro V F rb p h
    have := store_any h.1 (by omega) 2147483660 2 1 (by omega) (by omega) (by omega)
    rw [ex_p1, if_pos rfl] at this
    refine this.mono ?_
    rintro e w' ⟨he, F', hr, hs⟩
    exact ⟨he, F', h.step hr hs, hs⟩
  have K312 : Hid (∀ V F rb p, Ak w V F rb 8 (over (fun _ => 0) 2147483660 2 (byteAt 1)) p → Calls Try.prog 31 #[.pointer (some ⟨rb, 0, none⟩), .int .u64 2147483648, .int .i64 8, .int .u64 2147483648] V fun e w' => e = .returned (.bool true) ∧ ∃ F', Ak w w' F' rb 16 (over (over (fun _ => 0) 2147483660 2 (byteAt 1)) 2147483648 8 (byteAt 2147483648)) p ∧ Step F V F' w') := by
    intro V F rb p h
    have := store_any h.1 (by omega) 2147483648 8 2147483648 (by omega) (by omega) (by omega)
    rw [ex_p2, if_pos rfl] at this
    refine this.mono ?_
    rintro e w' ⟨he, F', hr, hs⟩
    exact ⟨he, F', h.step hr hs, hs⟩
  go_enter Try.func9, Try.ntmps9
  go_upto_region 4 with (go_at_call 30; refine (K30.out).mono ?_; rintro e w1 ⟨rb, F, rfl, hr, hF, hb⟩)
  go_upto_region 5 with fail
  have X1 : Hid (Ak w (w1.alloc (.cells #[.int .i64 2, .int .u64 2147483648, .int .u64 2147483904, .int .u64 2147484160] 25)) F rb 0 (fun _ => 0) w1.heap.size) := ⟨hr.below ((Below.refl _ _).alloc (Nat.le_refl _) _), hF, hb.trans ((Below.refl _ _).alloc hb.size _), heap_alloc_new _ _, fun hf => by have := hr.lt _ hf; omega, hb.size⟩
  clear hr hF hb K30
  generalize w1.alloc (.cells #[.int .i64 2, .int .u64 2147483648, .int .u64 2147483904, .int .u64 2147484160] 25) = w2 at *
  generalize w1.heap.size = p3 at *
  obtain ⟨l0, l1, l2, l3⟩ := box4_facts X1.out.2.2.2.1
  go_upto_region 6 with (go_at_call 12; refine (K12.out _ _ _ _ _ X1.out).mono ?_; rintro e w3 ⟨a1, c1, rfl, hb⟩; have X2 : Hid (Ak w w3 F rb 0 (fun _ => 0) p3) := X1.out.below hb; clear hb X1 l0 l1 l2 l3)
  have X3 : Hid (Ak w (w3.alloc (.cells #[.slice a1 0 c1, .int .u64 0, .int .u64 0] 40)) F rb 0 (fun _ => 0) p3 ∧ (w3.alloc (.cells #[.slice a1 0 c1, .int .u64 0, .int .u64 0] 40)).heap[w3.heap.size]? = some (.cells #[.slice a1 0 c1, .int .u64 0, .int .u64 0] 40 (0, 0)) ∧ ¬ F w3.heap.size) := ⟨X2.out.below ((Below.refl _ _).alloc (Nat.le_refl _) _), heap_alloc_new _ _, fun hf => by have := X2.out.1.lt _ hf; omega⟩
  clear X2 K12
  generalize w3.alloc (.cells #[.slice a1 0 c1, .int .u64 0, .int .u64 0] 40) = w4 at *
  generalize w3.heap.size = q at *
  go_upto_region 7 with (go_at_call 31; refine (K31.out _ _ _ _ X3.out.1).mono ?_; rintro e w5 ⟨rfl, F5, h5, hs5⟩; have X5 : Hid (Ak w w5 F5 rb 8 (over (fun _ => 0) 2147483660 2 (byteAt 1)) p3 ∧ w5.heap[q]? = some (.cells #[.slice a1 0 c1, .int .u64 0, .int .u64 0] 40 (0, 0)) ∧ ¬ F5 q) := ⟨h5, step_kept X3.out.2.1 hs5 X3.out.2.2⟩; clear h5 hs5 X3)
  go_upto_region 8 with (go_at_call 31; refine (K312.out _ _ _ _ X5.out.1).mono ?_; rintro e w6 ⟨rfl, F6, h6, hs6⟩; have X6 : Hid (Ak w w6 F6 rb 16 (over (over (fun _ => 0) 2147483660 2 (byteAt 1)) 2147483648 8 (byteAt 2147483648)) p3 ∧ w6.heap[q]? = some (.cells #[.slice a1 0 c1, .int .u64 0, .int .u64 0] 40 (0, 0)) ∧ ¬ F6 q) := ⟨h6, step_kept X5.out.2.1 hs6 X5.out.2.2⟩; clear h6 hs6 X5)
  obtain ⟨l0, l1, l2, l3⟩ := box4_facts X6.out.1.2.2.2.1
  go_upto_region 9 with (go_at_call 12; refine (K122.out _ _ _ _ _ X6.out.1).mono ?_; rintro e w7 ⟨a2, c2, rfl, hb⟩; have X7 : Hid (Below w.heap.size w w7 ∧ w7.heap[q]? = some (.cells #[.slice a1 0 c1, .int .u64 0, .int .u64 0] 40 (0, 0))) := ⟨below_to X6.out.1.2.2.1 hb, below_box X6.out.2.1 hb⟩; clear hb X6 l0 l1 l2 l3)
  have hb8 : Below w7.heap.size w7 (w7.alloc (.cells #[.slice a2 0 c2, .int .u64 0, .int .u64 0] 40)) := (Below.refl _ _).alloc (Nat.le_refl _) _
  have X8 : Hid (Below w.heap.size w (w7.alloc (.cells #[.slice a2 0 c2, .int .u64 0, .int .u64 0] 40)) ∧ (w7.alloc (.cells #[.slice a2 0 c2, .int .u64 0, .int .u64 0] 40)).heap[q]? = some (.cells #[.slice a1 0 c1, .int .u64 0, .int .u64 0] 40 (0, 0))) := ⟨below_to X7.out.1 hb8, below_box X7.out.2 hb8⟩
  clear hb8 X7
  generalize w7.alloc (.cells #[.slice a2 0 c2, .int .u64 0, .int .u64 0] 40) = w8 at *
  obtain ⟨q0, q1, q2⟩ := box3_facts X8.out.2
  go_wp2_with fail
  go_ret
  exact ⟨rfl, X8.out.1⟩
end Go.Proofs.Ytcgjfklglckjcaa
