/- Texts put together. -/
import Derived.Test.YtmjdnocilbnoaaaZf
import Derived.Test.YtmjdnocilbnoaaaZa
import Derived.ProofKit
import Derived.OpenShut
import Derived.Deep.Slices
/- The example: two chains offered are used, and told. -/
namespace Go.Proofs.Ytmjdnocilbnoaaa
open Go.RowKit Go.Maps
set_option linter.unusedVariables false
set_option linter.unusedSimpArgs false
set_option maxRecDepth 100000
def Aq (w V : World) (F : Nat → Prop) (rb k : Nat) (M : Nat → Nat) (p : Nat) (fe us : Int) : Prop := RamAt V F rb 8192 k (.pointer none) M ∧ (∀ z, F z → w.heap.size ≤ z) ∧ Below w.heap.size w V ∧ V.heap[p]? = some (.cells #[.int .i64 2, .int .u64 2147483648, .int .u64 2147483904, .int .u64 2147484160, .bool true, .int .u16 fe, .int .u16 us, .bool false, .bool false] 40 (0, 0)) ∧ ¬ F p ∧ w.heap.size ≤ p
theorem Aq.step {w V V2 : World} {F F2 : Nat → Prop} {rb k k2 p : Nat} {M M2 : Nat → Nat} {fe us : Int} (h : Aq w V F rb k M p fe us) (hr : RamAt V2 F2 rb 8192 k2 (.pointer none) M2) (hs : Step F V F2 V2) : Aq w V2 F2 rb k2 M2 p fe us := by
  have hlt := (Array.getElem?_eq_some_iff.1 h.2.2.2.1).1
  have hw := h.2.2.1.size
  exact ⟨hr, hs.base hw h.2.1, h.2.2.1.trans (hs.below hw h.2.1), (hs.block p hlt h.2.2.2.2.1).trans h.2.2.2.1, not_later hs hlt h.2.2.2.2.1, h.2.2.2.2.2⟩
set_option maxHeartbeats 2000000 in
theorem awake_any (w : World) : Calls Try.prog 5 #[] w fun e w' => e = .returned (.bool true) ∧ Below w.heap.size w w' := by
  have KN : Hid (Calls Try.prog 20 #[.int .u64 8192] w fun e w' => ∃ rb F, e = .returned (.tuple #[.pointer (some ⟨rb, 0, none⟩), .int .i64 0]) ∧ RamAt w' F rb 8192 0 (.pointer none) (fun _ => 0) ∧ (∀ k, F k → w.heap.size ≤ k) ∧ Below w.heap.size w w') := new_yes 8192 ex_new w
  have K1 : Hid (∀ V F rb p, Aq w V F rb 0 (fun _ => 0) p 0 0 → Calls Try.prog 21 #[.pointer (some ⟨rb, 0, none⟩), .int .u64 2147483648, .int .i64 8, .int .u64 2147487744] V fun e w' => e = .returned (.bool true) ∧ ∃ F', Aq w w' F' rb 8 (over (fun _ => 0) 2147483648 8 (byteAt 2147487744)) p 0 0) := by
    intro V F rb p h
    have := store_any h.1 (by omega) 2147483648 8 2147487744 (by omega) (by omega) (by omega)
    rw [ex_p1, if_pos rfl] at this
    refine this.mono ?_
    rintro e w' ⟨he, F', hr, hs⟩
    exact ⟨he, F', h.step hr hs⟩
  have K2 : Hid (∀ V F rb p, Aq w V F rb 8 (over (fun _ => 0) 2147483648 8 (byteAt 2147487744)) p 0 0 → Calls Try.prog 21 #[.pointer (some ⟨rb, 0, none⟩), .int .u64 2147483906, .int .i64 2, .int .u64 2] V fun e w' => e = .returned (.bool true) ∧ ∃ F', Aq w w' F' rb 16 (over (over (fun _ => 0) 2147483648 8 (byteAt 2147487744)) 2147483906 2 (byteAt 2)) p 0 0) := by
    intro V F rb p h
    have := store_any h.1 (by omega) 2147483906 2 2 (by omega) (by omega) (by omega)
    rw [ex_p2, if_pos rfl] at this
    refine this.mono ?_
    rintro e w' ⟨he, F', hr, hs⟩
    exact ⟨he, F', h.step hr hs⟩
  have KS : Hid (∀ V F rb p, Aq w V F rb 16 (over (over (fun _ => 0) 2147483648 8 (byteAt 2147487744)) 2147483906 2 (byteAt 2)) p 0 0 → Calls Try.prog 22 #[.pointer (some ⟨rb, 0, none⟩), .pointer (some ⟨p, 0, none⟩), .int .u8 7, .int .i64 9] V fun e w' => e = .returned (.tuple #[.bool true, .int .i64 0]) ∧ w'.heap[p]? = some (.cells #[.int .i64 2, .int .u64 2147483648, .int .u64 2147483904, .int .u64 2147484160, .bool true, .int .u16 2, .int .u16 2, .bool false, .bool false] 40 (0, 0)) ∧ Below w.heap.size w w') := by
    intro V F rb p h
    have := law_good (n := 2) (D := 2147483648) (A := 2147483904) (U := 2147484160) (ev := false) (al := false) (fe := 0) (us := 0) h.1 h.2.2.2.1 ex_gd h.2.2.2.2.1 (by decide) (by decide) 7 9 (by decide) (by decide) (by decide) _ rfl
    rw [ex_e, ex_us, ex_fe, ex_tell] at this
    refine this.mono ?_
    rintro e w' ⟨he, F', κ', hr, hq, hF, hk, hs⟩
    refine ⟨he, hq, h.2.2.1.trans (hs.below h.2.2.1.size (fun k hk => ?_))⟩
    rcases hk with hk | hk
    · exact h.2.1 k hk
    · rw [hk]; exact h.2.2.2.2.2
  go_enter Try.func5, Try.ntmps5
  go_upto_region 4 with (go_at_call 20; refine (KN.out).mono ?_; rintro e w1 ⟨rb, F, rfl, hr, hF, hb⟩)
  go_upto_region 5 with fail
  have X1 : Hid (Aq w (w1.alloc (.cells #[.int .i64 2, .int .u64 2147483648, .int .u64 2147483904, .int .u64 2147484160, .bool true, .int .u16 0, .int .u16 0, .bool false, .bool false] 40)) F rb 0 (fun _ => 0) w1.heap.size 0 0) := ⟨hr.below (one_box _ _), hF, hb.trans ((Below.refl _ _).alloc hb.size _), heap_alloc_new _ _, fun hf => by have := hr.lt _ hf; omega, hb.size⟩
  clear hr hF hb KN
  generalize w1.alloc (.cells #[.int .i64 2, .int .u64 2147483648, .int .u64 2147483904, .int .u64 2147484160, .bool true, .int .u16 0, .int .u16 0, .bool false, .bool false] 40) = w2 at *
  generalize w1.heap.size = p at *
  go_upto_region 6 with (go_at_call 21; refine (K1.out _ _ _ _ X1.out).mono ?_; rintro e w3 ⟨rfl, F3, h3⟩; have X2 : Hid (Aq w w3 F3 rb 8 (over (fun _ => 0) 2147483648 8 (byteAt 2147487744)) p 0 0) := h3; clear h3 X1)
  clear K1
  go_upto_region 7 with (go_at_call 21; refine (K2.out _ _ _ _ X2.out).mono ?_; rintro e w4 ⟨rfl, F4, h4⟩; have X3 : Hid (Aq w w4 F4 rb 16 (over (over (fun _ => 0) 2147483648 8 (byteAt 2147487744)) 2147483906 2 (byteAt 2)) p 0 0) := h4; clear h4 X2)
  clear K2
  go_wp2_with (go_at_call 22; refine (KS.out _ _ _ _ X3.out).mono ?_; rintro e w5 ⟨rfl, hq5, hb5⟩; have X5 : Hid (w5.heap[p]? = some (.cells #[.int .i64 2, .int .u64 2147483648, .int .u64 2147483904, .int .u64 2147484160, .bool true, .int .u16 2, .int .u16 2, .bool false, .bool false] 40 (0, 0)) ∧ Below w.heap.size w w5) := ⟨hq5, hb5⟩; clear hq5 hb5 X3; obtain ⟨c0, c1, c2, c3, c4, c5, c6, c7, c8⟩ := box9_facts X5.out.1)
  go_ret
  exact ⟨rfl, X5.out.2⟩
end Go.Proofs.Ytmjdnocilbnoaaa

/- What the statements are handed: a queue, numbers. -/
namespace Go.Proofs.Ytmjdnocilbnoaaa
open Go.RowKit Go.ChangeShapes Go.WideShapes Go.ChangeAt
set_option linter.unusedVariables false
set_option linter.unusedSimpArgs false
set_option maxRecDepth 100000
theorem cellsQ : Try.prog.cellsOf 27 = 9 := by kernel_rfl
theorem cellsL17 : Try.prog.cellsOf 25 = 4 := by kernel_rfl
theorem cellsI17 : Try.prog.cellsOf 3 = 1 := by kernel_rfl
theorem cellsB17 : Try.prog.cellsOf 4 = 1 := by kernel_rfl
theorem cellsU17 : Try.prog.cellsOf 23 = 1 := by kernel_rfl
theorem list_nine {α : Type} (l : List α) (h : l.length = 9) : ∃ a b c d e f g h i, l = [a, b, c, d, e, f, g, h, i] := by
  match l, h with
  | [a, b, c, d, e, f, g, h, i], _ => exact ⟨a, b, c, d, e, f, g, h, i, rfl⟩
theorem list_six {α : Type} (l : List α) (h : l.length = 6) : ∃ a b c d e f, l = [a, b, c, d, e, f] := by
  match l, h with
  | [a, b, c, d, e, f], _ => exact ⟨a, b, c, d, e, f, rfl⟩
section
variable {H : Type} {enc : TypeId × Value → H} {W : World} {spare : Nat → Bool} {held : Bool}
theorem open_lays {n : Nat} {cs : List Value} {x : DataW H × List MemPlace} (h : DataW.trod enc Try.prog W 0 (fun _ => true) held n 25 cs = some x) :
    ∃ (s : Int) (D A Uu : Nat), cs = [.int .i64 s, .int .u64 (D : Int), .int .u64 (A : Int), .int .u64 (Uu : Int)] ∧ (Lit.int .i64 s).wf = true ∧ D < 18446744073709551616 ∧ A < 18446744073709551616 ∧ Uu < 18446744073709551616 := by
  obtain ⟨xs, m, _, _, hl, hlen, hff⟩ := DataW.trod_struct Try.underlying25 h
  rw [cellsL17] at hl
  obtain ⟨c0, c1, c2, c3, rfl⟩ := list_four _ hl
  obtain ⟨y0, y1, y2, y3, rfl⟩ := list_four xs hlen
  have h0 := hff 0 _ rfl
  have h1 := hff 1 _ rfl
  have h2 := hff 2 _ rfl
  have h3 := hff 3 _ rfl
  simp [cellsI17, cellsU17] at h0 h1 h2 h3
  obtain ⟨z0, e0, _, w0⟩ := DataW.trod_int Try.underlying3 h0
  obtain ⟨z1, e1, _, w1⟩ := DataW.trod_int Try.underlying23 h1
  obtain ⟨z2, e2, _, w2⟩ := DataW.trod_int Try.underlying23 h2
  obtain ⟨z3, e3, _, w3⟩ := DataW.trod_int Try.underlying23 h3
  simp at e0 e1 e2 e3
  obtain ⟨n1, rfl, g1⟩ := nat_u64 w1
  obtain ⟨n2, rfl, g2⟩ := nat_u64 w2
  obtain ⟨n3, rfl, g3⟩ := nat_u64 w3
  subst e0 e1 e2 e3
  exact ⟨z0, n1, n2, n3, rfl, w0, g1, g2, g3⟩
theorem open_queue {r : Reach} {b0 : Nat} {x : Value} {d : DataW H} {p : List MemPlace} (hv : Value.okWide Try.prog W r b0 27 x) (h : DataW.Trod enc Try.prog W 0 (fun _ => true) held 27 x d p) :
    ∃ (s : Int) (D A U : Nat) (rd : Bool) (fi ui : Int) (ev al : Bool), x = .agg #[.int .i64 s, .int .u64 (D : Int), .int .u64 (A : Int), .int .u64 (U : Int), .bool rd, .int .i64 fi, .int .i64 ui, .bool ev, .bool al] ∧ D < 18446744073709551616 ∧ A < 18446744073709551616 ∧ U < 18446744073709551616 := by
  obtain ⟨cs, rfl⟩ := open_agg Try.underlying27 hv
  obtain ⟨fuel, hf⟩ := h
  obtain ⟨xs, m, _, _, hl, hlen, hff⟩ := DataW.trod_struct Try.underlying27 hf
  rw [cellsQ] at hl
  obtain ⟨c0, c1, c2, c3, c4, c5, c6, c7, c8, hcs⟩ := list_nine _ hl
  simp only [Value.cells] at hcs hff
  rw [hcs] at hff
  obtain ⟨y0, y1, y2, y3, y4, y5, rfl⟩ := list_six xs hlen
  have h0 := hff 0 _ rfl
  have h1 := hff 1 _ rfl
  have h2 := hff 2 _ rfl
  have h3 := hff 3 _ rfl
  have h4 := hff 4 _ rfl
  have h5 := hff 5 _ rfl
  simp [cellsL17, cellsI17, cellsB17] at h0 h1 h2 h3 h4 h5
  obtain ⟨s, D, A, Uu, e0, _, hD, hA, hU⟩ := open_lays h0
  obtain ⟨z1, e1, _⟩ := DataW.trod_bool Try.underlying4 h1
  obtain ⟨z2, e2, _, w2⟩ := DataW.trod_int Try.underlying3 h2
  obtain ⟨z3, e3, _, w3⟩ := DataW.trod_int Try.underlying3 h3
  obtain ⟨z4, e4, _⟩ := DataW.trod_bool Try.underlying4 h4
  obtain ⟨z5, e5, _⟩ := DataW.trod_bool Try.underlying4 h5
  simp at e0 e1 e2 e3 e4 e5
  obtain ⟨rfl, rfl, rfl, rfl⟩ := e0
  subst e1 e2 e3 e4 e5
  refine ⟨s, D, A, Uu, z1, z2, z3, z4, z5, ?_, hD, hA, hU⟩
  cases cs; simp_all
theorem open_int2 {r : Reach} {b0 : Nat} {x : Value} {d : DataW H} {p : List MemPlace} (hv : Value.okWide Try.prog W r b0 57 x) (h : DataW.Trod enc Try.prog W 0 (fun _ => true) held 57 x d p) :
    ∃ (a b : Int), x = .agg #[.int .i64 a, .int .i64 b] ∧ (Lit.int .i64 a).wf = true ∧ (Lit.int .i64 b).wf = true := by
  obtain ⟨cs, rfl, hsz, _⟩ : ∃ cs, x = .agg cs ∧ cs.size = Try.prog.cellsOf 57 ∧ Row.okWide Try.prog W r b0 57 cs := by
    simpa [Value.okWide, Try.underlying57] using hv
  rw [show Try.prog.cellsOf 57 = 2 from by kernel_rfl] at hsz
  obtain ⟨l⟩ := cs
  obtain ⟨c0, c1, rfl⟩ := list_two l hsz
  obtain ⟨fuel, hf⟩ := h
  obtain ⟨xs, m, rfl, hx, _, hl, hi⟩ := DataW.trod_array Try.underlying57 hf
  obtain ⟨y0, y1, rfl⟩ := list_two xs hl
  have h0 := hi 0 (by omega)
  have h1 := hi 1 (by omega)
  simp [Value.cells, cellsI17] at h0 h1
  obtain ⟨x0, e0, _, w0⟩ := DataW.trod_int Try.underlying3 h0
  obtain ⟨x1, e1, _, w1⟩ := DataW.trod_int Try.underlying3 h1
  simp at e0 e1
  subst e0 e1
  exact ⟨x0, x1, rfl, w0, w1⟩
end
end Go.Proofs.Ytmjdnocilbnoaaa
