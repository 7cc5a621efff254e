/- QueueWrites. -/
import Derived.Test.YtmjdnocilbnoaaaZf
import Derived.Test.YtmjdnocilbnoaaaZg
import Derived.Test.YtmjdnocilbnoaaaZb
namespace Go.Proofs.Ytmjdnocilbnoaaa
open Go.RowKit Go.Maps
set_option linter.unusedVariables false
set_option linter.unusedSimpArgs false
set_option maxRecDepth 100000
theorem sub_back (p j : Nat) (h : p + j < 4294967296) : IntKind.u64.wrap (((p + j : Nat) : Int) - (p : Int)) = (j : Int) := by
  simp only [IntKind.wrap, IntKind.signed, IntKind.bits]
  simp
  omega
theorem add_one64 (x : Nat) (h : x < 4294967296) : IntKind.u64.wrap ((x : Int) + 1) = ((x + 1 : Nat) : Int) := by
  simp only [IntKind.wrap, IntKind.signed, IntKind.bits]
  simp
  omega
theorem sub_far (x a : Nat) (hx : x < 4294967296) (ha : a < 18446744073709551616) : ∃ y : Nat, IntKind.u64.wrap ((x : Int) - (a : Int)) = (y : Int) ∧ ∀ L, a + L ≤ 9223372036854775808 → (y < L ↔ a ≤ x ∧ x < a + L) := by
  by_cases h : a ≤ x
  · refine ⟨x - a, ?_, fun L hL => by omega⟩
    simp only [IntKind.wrap, IntKind.signed, IntKind.bits]
    simp
    omega
  · refine ⟨x + 18446744073709551616 - a, ?_, fun L hL => by omega⟩
    simp only [IntKind.wrap, IntKind.signed, IntKind.bits]
    simp
    omega
theorem count_up (i : Nat) (h : i ≤ 100000) : wrap64 ((i : Int) + 1) = ((i + 1 : Nat) : Int) := by unfold wrap64; omega
def hitS (ms : List Seg) (q x : Nat) : Prop := ∃ h : q < ms.length, (ms[q]).wr = true ∧ (ms[q]).a ≤ x ∧ x < (ms[q]).a + (ms[q]).l
/-- what the third loop keeps -/
def InR (n U : Nat) (ms : List Seg) (x k : Nat) (v : Value) : Prop := v = .bool true ∨ (v = .bool false ∧ ¬ inU n U x ∧ ∀ q, q < k → ¬ hitS ms q x)
theorem inr_start {n U x : Nat} {ms : List Seg} {bu : Bool} (h : bu = true ↔ inU n U x) : InR n U ms x 0 (.bool bu) := by
  cases bu with
  | true => exact .inl rfl
  | false => exact .inr ⟨rfl, (fun hu => Bool.noConfusion (h.2 hu)), fun q hq => absurd hq (Nat.not_lt_zero _)⟩
theorem inr_more {n U x k : Nat} {ms : List Seg} {bs : Bool} (h0 : ¬ inU n U x ∧ ∀ q, q < k → ¬ hitS ms q x) (h : bs = true ↔ hitS ms k x) : InR n U ms x (k + 1) (.bool bs) := by
  cases bs with
  | true => exact .inl rfl
  | false =>
    refine .inr ⟨rfl, h0.1, fun q hq => ?_⟩
    by_cases hqk : q < k
    · exact h0.2 q hqk
    · obtain rfl : q = k := by omega
      intro hc
      have := h.2 hc
      cases this
theorem Below.drewN2 {n : Nat} {w w' : World} (h : Below n w w') (q : Nat) : Below n w (w'.drewN q) := below_drewN h q
/-- behind the service: the segments that were told, the used area, what differs -/
def Lw (W V : World) (ao : Nat) (va : Option Addr) (m vc : Nat) (ms : List Seg) (base ug n D A U : Nat) (ad : Option Addr) (L cd : Nat) (l : List (Nat × Nat)) (dB : Nat) : Prop := Below W.heap.size W V ∧ V.heap[ao]? = some (.cells #[.slice va m vc] 46 (0, 0)) ∧ SegIn base V (.slice va m vc) ms ∧ V.heap[ug]? = some (.cells #[.int .u64 (D : Int), .int .u64 (16 * (n : Int)), .int .u64 (A : Int), .int .u64 (6 + 2 * (n : Int)), .int .u64 (U : Int), .int .u64 (6 + 8 * (n : Int))] 48 (0, 0)) ∧ SpanIn dB V (.slice ad L cd) l
theorem Lw.below {W V V2 : World} {ao : Nat} {va : Option Addr} {m vc : Nat} {ms : List Seg} {base ug n D A U : Nat} {ad : Option Addr} {L cd : Nat} {l : List (Nat × Nat)} {dB : Nat} (h : Lw W V ao va m vc ms base ug n D A U ad L cd l dB) (hb : Below V.heap.size V V2) : Lw W V2 ao va m vc ms base ug n D A U ad L cd l dB := ⟨below_to h.1 hb, below_box h.2.1 hb, h.2.2.1.kept (fun g hg => hb.block g (h.2.2.1.lt g hg).2), below_box h.2.2.2.1 hb, h.2.2.2.2.kept (fun g hg => hb.block g (h.2.2.2.2.lt g hg).2)⟩

theorem sub_back2 {p j x : Nat} (h : p + j = x) (hx : x < 4294967296) : IntKind.u64.wrap ((x : Int) - (p : Int)) = (j : Int) := by
  subst h
  exact sub_back p j hx
theorem add_one2 {x x1 : Nat} (h : x + 1 = x1) (hx : x < 4294967296) : IntKind.u64.wrap ((x : Int) + 1) = (x1 : Int) := by
  subst h
  exact add_one64 x hx
theorem at_small {p1 p2 j x : Nat} (h : p1 + j = x) (hj : j ≤ p2) (hp : p1 + p2 ≤ 2147491840) : p1 + j = x ∧ x < 4294967296 := ⟨h, by omega⟩
theorem less_one {i L : Nat} {v : Int} (h : v = ((i + 1 : Nat) : Int)) (hl : i < L) : L - (intOf (.int .i64 v)).toNat < L - (intOf (.int .i64 (i : Int))).toNat := by
  subst h
  simp [intOf]
  omega
theorem at_next {p1 j x x1 : Nat} (h : p1 + j = x) (h1 : x + 1 = x1) : Value.int .u64 (x1 : Int) = .int .u64 ((p1 + (j + 1) : Nat) : Int) := by
  subst h h1
  rfl
theorem at_less {p1 p2 j x x1 : Nat} (h : p1 + j = x) (h1 : x + 1 = x1) (hj : j < p2) : p1 + p2 - (intOf (.int .u64 (x1 : Int))).toNat < p1 + p2 - (intOf (.int .u64 (x : Int))).toNat := by
  subst h h1
  simp [intOf]
  omega
theorem in_at {p1 p2 j x n U : Nat} {ms : List Seg} (h : p1 + j = x) (hj : j < p2) (hp : ∀ i, i < p2 → inU n U (p1 + i) ∨ inW ms (p1 + i)) : inU n U x ∨ inW ms x := by
  subst h
  exact hp j hj
theorem used_at {x U n : Nat} (hx : x < 4294967296) (hU : U < 18446744073709551616) (hu : U + 6 + 8 * n ≤ 2147491840) : ∃ (y : Nat) (bu : Bool), IntKind.u64.wrap ((x : Int) - (U : Int)) = (y : Int) ∧ decide ((y : Int) < 6 + 8 * (n : Int)) = bu ∧ decide (y < 6 + 8 * n) = bu ∧ (bu = true ↔ inU n U x) := by
  obtain ⟨y, e, hy⟩ := sub_far x U hx hU
  refine ⟨y, decide (y < 6 + 8 * n), e, ?_, rfl, ?_⟩
  · apply decide_eq_decide.2
    omega
  · rw [decide_eq_true_iff, hy (6 + 8 * n) (by omega)]
    unfold inU
    omega
theorem span_at {B : Nat} {w : World} {ad : Option Addr} {L cd i : Nat} {l : List (Nat × Nat)} (h : SpanIn B w (.slice ad L cd) l) (hl : l.length = L) (hi : i < L) {P : Nat × Nat → Prop} (hP : ∀ p ∈ l, P p) : ∃ (g p1 p2 : Nat), ad = some ⟨g, 0, none⟩ ∧ w.cell? ⟨g, i * 2, none⟩ = some (.int .u64 (p1 : Nat)) ∧ w.cell? ⟨g, i * 2 + 1, none⟩ = some (.int .u64 (p2 : Nat)) ∧ g < w.heap.size ∧ P (p1, p2) := by
  obtain ⟨g, cd', hcd, hcs⟩ := h.cells (by omega)
  simp only [Value.slice.injEq] at hcd
  obtain ⟨rfl, _, rfl⟩ := hcd
  obtain ⟨s0, s1⟩ := hcs i (by omega)
  have hpm : l.getD i (0, 0) ∈ l := by
    rw [List.getD_eq_getElem?_getD, List.getElem?_eq_getElem (by omega)]
    exact List.getElem_mem _
  exact ⟨g, _, _, rfl, s0, s1, (h.lt g rfl).2, hP _ hpm⟩
theorem third_on {n U x k m : Nat} {ms : List Seg} (hm : ms.length = m) (h : inU n U x ∨ inW ms x) (h0 : ¬ inU n U x ∧ ∀ q, q < k → ¬ hitS ms q x) : k < m := by
  rcases Nat.lt_or_ge k m with h1 | h1
  · exact h1
  · exfalso
    rcases h with hu | ⟨sg, hs, hw, h2, h3⟩
    · exact h0.1 hu
    · obtain ⟨q, hq, rfl⟩ := List.getElem_of_mem hs
      exact h0.2 q (by omega) ⟨hq, hw, h2, h3⟩
theorem seg_at {B : Nat} {w : World} {va : Option Addr} {m vc k x : Nat} {ms : List Seg} (h : SegIn B w (.slice va m vc) ms) (hm : ms.length = m) (hk : k < m) (hok : ∀ s ∈ ms, SegOk s) (hx : x < 4294967296) : ∃ (sg f0 f1 : Nat) (f2 : Bool), va = some ⟨sg, 0, none⟩ ∧ w.cell? ⟨sg, k * 3, none⟩ = some (.int .u64 (f0 : Nat)) ∧ w.cell? ⟨sg, k * 3 + 1, none⟩ = some (.int .u64 (f1 : Nat)) ∧ w.cell? ⟨sg, k * 3 + 2, none⟩ = some (.bool f2) ∧ ∃ (hh : (hitS ms k x ↔ (f2 = true ∧ (decide (f0 ≤ x ∧ x < f0 + f1)) = true))) (y2 : Nat), IntKind.u64.wrap ((x : Int) - (f0 : Int)) = (y2 : Int) ∧ ∃ bs : Bool, decide ((y2 : Int) < (f1 : Int)) = bs ∧ decide (y2 < f1) = bs ∧ bs = decide (f0 ≤ x ∧ x < f0 + f1) := by
  obtain ⟨sg, vc', hvs, hsc⟩ := h.cells (by omega)
  simp only [Value.slice.injEq] at hvs
  obtain ⟨rfl, _, rfl⟩ := hvs
  have hkl : k < ms.length := by omega
  obtain ⟨d0, d1, d2⟩ := hsc k hkl
  have hsi := in_len (hok _ (List.getElem_mem hkl)).i
  obtain ⟨y2, e4, hy2⟩ := sub_far x (ms[k]).a hx (by omega)
  have hyS := hy2 (ms[k]).l (by omega)
  refine ⟨sg, (ms[k]).a, (ms[k]).l, (ms[k]).wr, rfl, d0, d1, d2, ?_, y2, e4, decide (y2 < (ms[k]).l), ?_, rfl, ?_⟩
  · unfold hitS
    rw [decide_eq_true_iff]
    exact ⟨fun ⟨_, h1, h2, h3⟩ => ⟨h1, h2, h3⟩, fun ⟨h1, h2, h3⟩ => ⟨hkl, h1, h2, h3⟩⟩
  · apply decide_eq_decide.2
    omega
  · apply decide_eq_decide.2
    exact hyS

set_option maxHeartbeats 8000000 in
theorem writes_core (W : World) (v : Value) (len : Nat) (ps : Nat → PutD) (hws : PutsIn W v len ps) (s : Int) (D A U : Nat) (rd : Bool) (fi ui : Int) (ev al : Bool) (hD : D < 18446744073709551616) (hA : A < 18446744073709551616) (hU : U < 18446744073709551616) (h0 h1 : Int) : Calls Try.prog 4 #[v, .agg #[.int .i64 s, .int .u64 (D : Int), .int .u64 (A : Int), .int .u64 (U : Int), .bool rd, .int .i64 fi, .int .i64 ui, .bool ev, .bool al], .agg #[.int .i64 h0, .int .i64 h1]] W fun e w' => e = .returned (.bool true) ∧ Below W.heap.size W w' := by
  have X0 : Hid (Below W.heap.size W ((W.alloc (.cells #[.int .i64 s, .int .u64 (D : Int), .int .u64 (A : Int), .int .u64 (U : Int), .bool rd, .int .i64 fi, .int .i64 ui, .bool ev, .bool al] 27)).alloc (.cells #[.int .i64 h0, .int .i64 h1] 57)) ∧ ((W.alloc (.cells #[.int .i64 s, .int .u64 (D : Int), .int .u64 (A : Int), .int .u64 (U : Int), .bool rd, .int .i64 fi, .int .i64 ui, .bool ev, .bool al] 27)).alloc (.cells #[.int .i64 h0, .int .i64 h1] 57)).heap[W.heap.size]? = some (.cells #[.int .i64 s, .int .u64 (D : Int), .int .u64 (A : Int), .int .u64 (U : Int), .bool rd, .int .i64 fi, .int .i64 ui, .bool ev, .bool al] 27 (0, 0)) ∧ ((W.alloc (.cells #[.int .i64 s, .int .u64 (D : Int), .int .u64 (A : Int), .int .u64 (U : Int), .bool rd, .int .i64 fi, .int .i64 ui, .bool ev, .bool al] 27)).alloc (.cells #[.int .i64 h0, .int .i64 h1] 57)).heap[W.heap.size + 1]? = some (.cells #[.int .i64 h0, .int .i64 h1] 57 (0, 0))) := ⟨((Below.refl _ _).alloc (Nat.le_refl _) _).alloc (by simp) _, (two_in W _ _).1, (two_in W _ _).2⟩
  have HW : Hid (PutsIn W v len ps) := hws
  have HU : Hid (D < 18446744073709551616 ∧ A < 18446744073709551616 ∧ U < 18446744073709551616) := ⟨hD, hA, hU⟩
  clear hws hD hA hU
  go_enter Try.func4, Try.ntmps4
  go_upto_region 1 with fail
  generalize (W.alloc (.cells #[.int .i64 s, .int .u64 (D : Int), .int .u64 (A : Int), .int .u64 (U : Int), .bool rd, .int .i64 fi, .int .i64 ui, .bool ev, .bool al] 27)).alloc (.cells #[.int .i64 h0, .int .i64 h1] 57) = v0 at *
  go_upto_region 3 with (go_at_call 5; refine (awake_any _).mono ?_; rintro e w1 ⟨rfl, hb1⟩; have X1 : Hid (Below W.heap.size W w1 ∧ w1.heap[W.heap.size]? = some (.cells #[.int .i64 s, .int .u64 (D : Int), .int .u64 (A : Int), .int .u64 (U : Int), .bool rd, .int .i64 fi, .int .i64 ui, .bool ev, .bool al] 27 (0, 0)) ∧ w1.heap[W.heap.size + 1]? = some (.cells #[.int .i64 h0, .int .i64 h1] 57 (0, 0))) := ⟨below_to X0.out.1 hb1, below_box X0.out.2.1 hb1, below_box X0.out.2.2 hb1⟩; clear hb1 X0)
  go_upto_region 4 with (go_at_call 6; refine (memory_any _ len ps _ (HW.out.up X1.out.1)).mono ?_; rintro e w2 ⟨pv, a, mn, c, rfl, hb2, hor⟩; have X2 : Hid (Below W.heap.size W w2 ∧ w2.heap[W.heap.size]? = some (.cells #[.int .i64 s, .int .u64 (D : Int), .int .u64 (A : Int), .int .u64 (U : Int), .bool rd, .int .i64 fi, .int .i64 ui, .bool ev, .bool al] 27 (0, 0)) ∧ w2.heap[W.heap.size + 1]? = some (.cells #[.int .i64 h0, .int .i64 h1] 57 (0, 0))) := ⟨below_to X1.out.1 hb2, below_box X1.out.2.1 hb2, below_box X1.out.2.2 hb2⟩; rcases hor with ⟨rfl, _⟩ | ⟨rb, F, M, rfl, hB, hF⟩)
  · have hb3 : Below w2.heap.size w2 ((w2.alloc (.cells #[.pointer none] 29)).alloc (.cells #[.int .u64 8192, .slice a mn c] 32)) := ((Below.refl _ _).alloc (Nat.le_refl _) _).alloc (by simp) _
    have h3 := two_in w2 (.cells #[.pointer none] 29) (.cells #[.int .u64 8192, .slice a mn c] 32)
    have X3 : Hid (Below W.heap.size W ((w2.alloc (.cells #[.pointer none] 29)).alloc (.cells #[.int .u64 8192, .slice a mn c] 32)) ∧ ((w2.alloc (.cells #[.pointer none] 29)).alloc (.cells #[.int .u64 8192, .slice a mn c] 32)).heap[w2.heap.size]? = some (.cells #[.pointer none] 29 (0, 0))) := ⟨below_to X2.out.1 hb3, h3.1⟩
    clear hb2 hb3 h3 X2 X1
    generalize (w2.alloc (.cells #[.pointer none] 29)).alloc (.cells #[.int .u64 8192, .slice a mn c] 32) = w3 at *
    generalize w2.heap.size = p7 at *
    obtain ⟨m0, m1⟩ := box1_facts X3.out.2
    go_wp2_with fail
    go_ret
    exact ⟨rfl, X3.out.1⟩
  have h3 := two_in w2 (.cells #[.pointer (some ⟨rb, 0, none⟩)] 29) (.cells #[.int .u64 8192, .slice a mn c] 32)
  have hb3 : Below w2.heap.size w2 ((w2.alloc (.cells #[.pointer (some ⟨rb, 0, none⟩)] 29)).alloc (.cells #[.int .u64 8192, .slice a mn c] 32)) := ((Below.refl _ _).alloc (Nat.le_refl _) _).alloc (by simp) _
  have X3 : Hid ((Below W.heap.size W ((w2.alloc (.cells #[.pointer (some ⟨rb, 0, none⟩)] 29)).alloc (.cells #[.int .u64 8192, .slice a mn c] 32)) ∧ ((w2.alloc (.cells #[.pointer (some ⟨rb, 0, none⟩)] 29)).alloc (.cells #[.int .u64 8192, .slice a mn c] 32)).heap[W.heap.size]? = some (.cells #[.int .i64 s, .int .u64 (D : Int), .int .u64 (A : Int), .int .u64 (U : Int), .bool rd, .int .i64 fi, .int .i64 ui, .bool ev, .bool al] 27 (0, 0)) ∧ ((w2.alloc (.cells #[.pointer (some ⟨rb, 0, none⟩)] 29)).alloc (.cells #[.int .u64 8192, .slice a mn c] 32)).heap[W.heap.size + 1]? = some (.cells #[.int .i64 h0, .int .i64 h1] 57 (0, 0))) ∧ ((w2.alloc (.cells #[.pointer (some ⟨rb, 0, none⟩)] 29)).alloc (.cells #[.int .u64 8192, .slice a mn c] 32)).heap[w2.heap.size]? = some (.cells #[.pointer (some ⟨rb, 0, none⟩)] 29 (0, 0)) ∧ ((w2.alloc (.cells #[.pointer (some ⟨rb, 0, none⟩)] 29)).alloc (.cells #[.int .u64 8192, .slice a mn c] 32)).heap[w2.heap.size + 1]? = some (.cells #[.int .u64 8192, .slice a mn c] 32 (0, 0))) := ⟨⟨below_to X2.out.1 hb3, below_box X2.out.2.1 hb3, below_box X2.out.2.2 hb3⟩, h3.1, h3.2⟩
  have HB : Hid (Both F ((w2.alloc (.cells #[.pointer (some ⟨rb, 0, none⟩)] 29)).alloc (.cells #[.int .u64 8192, .slice a mn c] 32)) rb 8192 (.slice a mn c) 12000 M ∧ (∀ k, F k → W.heap.size + 2 ≤ k) ∧ ∀ k, F k → k < w2.heap.size) := ⟨hB.below hb3, fun k hk => Nat.le_trans (Array.getElem?_eq_some_iff.1 X1.out.2.2).1 (hF k hk), fun k hf => hB.1.lt _ hf⟩
  have HP0 : Hid (W.heap.size + 2 ≤ w2.heap.size) := (Array.getElem?_eq_some_iff.1 X2.out.2.2).1
  clear hB hF hb2 hb3 X1 X2 h3
  generalize (w2.alloc (.cells #[.pointer (some ⟨rb, 0, none⟩)] 29)).alloc (.cells #[.int .u64 8192, .slice a mn c] 32) = w3 at *
  obtain ⟨p8, hp8⟩ : ∃ p8, w2.heap.size + 1 = p8 := ⟨_, rfl⟩
  have HP : Hid (w2.heap.size < p8) := by show w2.heap.size < p8; omega
  rw [hp8] at X3 ⊢
  clear hp8
  generalize w2.heap.size = p7 at *
  obtain ⟨c0, c1, c2, c3, c4, c5, c6, c7, c8⟩ := box9_facts X3.out.1.2.1
  obtain ⟨m0, m1⟩ := box1_facts X3.out.2.1
  obtain ⟨r0, r1, _, _⟩ := box_facts X3.out.2.2
  by_cases hin : inQ fi ui
  case neg =>
    go_wp2_with (go_at_call 7; refine (right_no hin).mono ?_; rintro e w4 ⟨rfl, hb4⟩; have X4 : Hid (Below W.heap.size W w4) := below_to X3.out.1.1 hb4; clear hb4)
    go_ret
    exact ⟨rfl, X4.out⟩
  obtain ⟨fe, us, rfl, rfl, hfe, hus⟩ := inQ_nat hin
  have HFU : Hid (fe ≤ 65535 ∧ us ≤ 65535) := ⟨hfe, hus⟩
  have RY : Hid (∀ V, Calls Try.prog 7 #[.agg #[.int .i64 s, .int .u64 (D : Int), .int .u64 (A : Int), .int .u64 (U : Int), .bool rd, .int .i64 (fe : Int), .int .i64 (us : Int), .bool ev, .bool al]] V fun e w' => e = .returned (.bool true) ∧ Below V.heap.size V w') := fun V => right_yes hfe hus
  have XC : Hid ((Below W.heap.size W w3 ∧ w3.heap[W.heap.size]? = some (.cells #[.int .i64 s, .int .u64 (D : Int), .int .u64 (A : Int), .int .u64 (U : Int), .bool rd, .int .i64 (fe : Int), .int .i64 (us : Int), .bool ev, .bool al] 27 (0, 0)) ∧ w3.heap[W.heap.size + 1]? = some (.cells #[.int .i64 h0, .int .i64 h1] 57 (0, 0))) ∧ w3.heap[p7]? = some (.cells #[.pointer (some ⟨rb, 0, none⟩)] 29 (0, 0)) ∧ w3.heap[p8]? = some (.cells #[.int .u64 8192, .slice a mn c] 32 (0, 0))) := X3.out
  clear hin hfe hus X3
  by_cases hrg : 0 ≤ h0 ∧ h0 ≤ 255 ∧ 0 ≤ h1 ∧ h1 ≤ 40
  case neg =>
    by_cases g0 : h0 < 0
    case pos =>
      clear hrg
      go_wp2_with (first | (go_at_call 7; refine (RY.out _).mono ?_; rintro e w4 ⟨rfl, hb4⟩; have X4 : Hid ((Below W.heap.size W w4 ∧ w4.heap[W.heap.size]? = some (.cells #[.int .i64 s, .int .u64 (D : Int), .int .u64 (A : Int), .int .u64 (U : Int), .bool rd, .int .i64 (fe : Int), .int .i64 (us : Int), .bool ev, .bool al] 27 (0, 0)) ∧ w4.heap[W.heap.size + 1]? = some (.cells #[.int .i64 h0, .int .i64 h1] 57 (0, 0))) ∧ w4.heap[p7]? = some (.cells #[.pointer (some ⟨rb, 0, none⟩)] 29 (0, 0)) ∧ w4.heap[p8]? = some (.cells #[.int .u64 8192, .slice a mn c] 32 (0, 0))) := ⟨⟨below_to XC.out.1.1 hb4, below_box XC.out.1.2.1 hb4, below_box XC.out.1.2.2 hb4⟩, below_box XC.out.2.1 hb4, below_box XC.out.2.2 hb4⟩; have HB4 : Hid (Both F w4 rb 8192 (.slice a mn c) 12000 M) := HB.out.1.below hb4; clear hb4 c0 c1 c2 c3 c4 c5 c6 c7 c8 m0 m1 r0 r1; obtain ⟨c0, c1, c2, c3, c4, c5, c6, c7, c8⟩ := box9_facts X4.out.1.2.1; obtain ⟨m0, m1⟩ := box1_facts X4.out.2.1; obtain ⟨r0, r1, _, _⟩ := box_facts X4.out.2.2; obtain ⟨k0, k1, _, _⟩ := box_facts X4.out.1.2.2))
      go_ret
      exact ⟨rfl, X4.out.1.1⟩
    by_cases g1 : 255 < h0
    case pos =>
      clear hrg
      go_wp2_with (first | (go_at_call 7; refine (RY.out _).mono ?_; rintro e w4 ⟨rfl, hb4⟩; have X4 : Hid ((Below W.heap.size W w4 ∧ w4.heap[W.heap.size]? = some (.cells #[.int .i64 s, .int .u64 (D : Int), .int .u64 (A : Int), .int .u64 (U : Int), .bool rd, .int .i64 (fe : Int), .int .i64 (us : Int), .bool ev, .bool al] 27 (0, 0)) ∧ w4.heap[W.heap.size + 1]? = some (.cells #[.int .i64 h0, .int .i64 h1] 57 (0, 0))) ∧ w4.heap[p7]? = some (.cells #[.pointer (some ⟨rb, 0, none⟩)] 29 (0, 0)) ∧ w4.heap[p8]? = some (.cells #[.int .u64 8192, .slice a mn c] 32 (0, 0))) := ⟨⟨below_to XC.out.1.1 hb4, below_box XC.out.1.2.1 hb4, below_box XC.out.1.2.2 hb4⟩, below_box XC.out.2.1 hb4, below_box XC.out.2.2 hb4⟩; have HB4 : Hid (Both F w4 rb 8192 (.slice a mn c) 12000 M) := HB.out.1.below hb4; clear hb4 c0 c1 c2 c3 c4 c5 c6 c7 c8 m0 m1 r0 r1; obtain ⟨c0, c1, c2, c3, c4, c5, c6, c7, c8⟩ := box9_facts X4.out.1.2.1; obtain ⟨m0, m1⟩ := box1_facts X4.out.2.1; obtain ⟨r0, r1, _, _⟩ := box_facts X4.out.2.2; obtain ⟨k0, k1, _, _⟩ := box_facts X4.out.1.2.2))
      go_ret
      exact ⟨rfl, X4.out.1.1⟩
    by_cases g2 : h1 < 0
    case pos =>
      clear hrg
      go_wp2_with (first | (go_at_call 7; refine (RY.out _).mono ?_; rintro e w4 ⟨rfl, hb4⟩; have X4 : Hid ((Below W.heap.size W w4 ∧ w4.heap[W.heap.size]? = some (.cells #[.int .i64 s, .int .u64 (D : Int), .int .u64 (A : Int), .int .u64 (U : Int), .bool rd, .int .i64 (fe : Int), .int .i64 (us : Int), .bool ev, .bool al] 27 (0, 0)) ∧ w4.heap[W.heap.size + 1]? = some (.cells #[.int .i64 h0, .int .i64 h1] 57 (0, 0))) ∧ w4.heap[p7]? = some (.cells #[.pointer (some ⟨rb, 0, none⟩)] 29 (0, 0)) ∧ w4.heap[p8]? = some (.cells #[.int .u64 8192, .slice a mn c] 32 (0, 0))) := ⟨⟨below_to XC.out.1.1 hb4, below_box XC.out.1.2.1 hb4, below_box XC.out.1.2.2 hb4⟩, below_box XC.out.2.1 hb4, below_box XC.out.2.2 hb4⟩; have HB4 : Hid (Both F w4 rb 8192 (.slice a mn c) 12000 M) := HB.out.1.below hb4; clear hb4 c0 c1 c2 c3 c4 c5 c6 c7 c8 m0 m1 r0 r1; obtain ⟨c0, c1, c2, c3, c4, c5, c6, c7, c8⟩ := box9_facts X4.out.1.2.1; obtain ⟨m0, m1⟩ := box1_facts X4.out.2.1; obtain ⟨r0, r1, _, _⟩ := box_facts X4.out.2.2; obtain ⟨k0, k1, _, _⟩ := box_facts X4.out.1.2.2))
      go_ret
      exact ⟨rfl, X4.out.1.1⟩
    have g3 : 40 < h1 := by omega
    clear hrg
    go_wp2_with (first | (go_at_call 7; refine (RY.out _).mono ?_; rintro e w4 ⟨rfl, hb4⟩; have X4 : Hid ((Below W.heap.size W w4 ∧ w4.heap[W.heap.size]? = some (.cells #[.int .i64 s, .int .u64 (D : Int), .int .u64 (A : Int), .int .u64 (U : Int), .bool rd, .int .i64 (fe : Int), .int .i64 (us : Int), .bool ev, .bool al] 27 (0, 0)) ∧ w4.heap[W.heap.size + 1]? = some (.cells #[.int .i64 h0, .int .i64 h1] 57 (0, 0))) ∧ w4.heap[p7]? = some (.cells #[.pointer (some ⟨rb, 0, none⟩)] 29 (0, 0)) ∧ w4.heap[p8]? = some (.cells #[.int .u64 8192, .slice a mn c] 32 (0, 0))) := ⟨⟨below_to XC.out.1.1 hb4, below_box XC.out.1.2.1 hb4, below_box XC.out.1.2.2 hb4⟩, below_box XC.out.2.1 hb4, below_box XC.out.2.2 hb4⟩; have HB4 : Hid (Both F w4 rb 8192 (.slice a mn c) 12000 M) := HB.out.1.below hb4; clear hb4 c0 c1 c2 c3 c4 c5 c6 c7 c8 m0 m1 r0 r1; obtain ⟨c0, c1, c2, c3, c4, c5, c6, c7, c8⟩ := box9_facts X4.out.1.2.1; obtain ⟨m0, m1⟩ := box1_facts X4.out.2.1; obtain ⟨r0, r1, _, _⟩ := box_facts X4.out.2.2; obtain ⟨k0, k1, _, _⟩ := box_facts X4.out.1.2.2))
    go_ret
    exact ⟨rfl, X4.out.1.1⟩
  obtain ⟨b, rfl⟩ : ∃ b : Nat, h0 = (b : Int) := ⟨h0.toNat, by omega⟩
  obtain ⟨t, rfl⟩ : ∃ t : Nat, h1 = (t : Int) := ⟨h1.toNat, by omega⟩
  have g0 : ¬ (b : Int) < 0 := by omega
  have g1 : ¬ 255 < (b : Int) := by omega
  have g2 : ¬ (t : Int) < 0 := by omega
  have g3 : ¬ 40 < (t : Int) := by omega
  have HBT : Hid (b ≤ 255 ∧ t ≤ 40) := ⟨by omega, by omega⟩
  clear hrg
  cases rd with
  | false =>
    go_wp2_with (first | (go_at_call 7; refine (RY.out _).mono ?_; rintro e w4 ⟨rfl, hb4⟩; have X4 : Hid ((Below W.heap.size W w4 ∧ w4.heap[W.heap.size]? = some (.cells #[.int .i64 s, .int .u64 (D : Int), .int .u64 (A : Int), .int .u64 (U : Int), .bool false, .int .i64 (fe : Int), .int .i64 (us : Int), .bool ev, .bool al] 27 (0, 0)) ∧ w4.heap[W.heap.size + 1]? = some (.cells #[.int .i64 (b : Int), .int .i64 (t : Int)] 57 (0, 0))) ∧ w4.heap[p7]? = some (.cells #[.pointer (some ⟨rb, 0, none⟩)] 29 (0, 0)) ∧ w4.heap[p8]? = some (.cells #[.int .u64 8192, .slice a mn c] 32 (0, 0))) := ⟨⟨below_to XC.out.1.1 hb4, below_box XC.out.1.2.1 hb4, below_box XC.out.1.2.2 hb4⟩, below_box XC.out.2.1 hb4, below_box XC.out.2.2 hb4⟩; have HB4 : Hid (Both F w4 rb 8192 (.slice a mn c) 12000 M) := HB.out.1.below hb4; clear hb4 c0 c1 c2 c3 c4 c5 c6 c7 c8 m0 m1 r0 r1; obtain ⟨c0, c1, c2, c3, c4, c5, c6, c7, c8⟩ := box9_facts X4.out.1.2.1; obtain ⟨m0, m1⟩ := box1_facts X4.out.2.1; obtain ⟨r0, r1, _, _⟩ := box_facts X4.out.2.2; obtain ⟨k0, k1, _, _⟩ := box_facts X4.out.1.2.2))
    go_ret
    exact ⟨rfl, X4.out.1.1⟩
  | true =>
  obtain ⟨ce, hce⟩ : ∃ ce, chkN s D A U 8192 = ce := ⟨_, rfl⟩
  have HCE : Hid (chkN s D A U 8192 = ce) := hce
  by_cases hc : ce = 0
  case neg =>
    have q1 : (ce != 0) = true := by simp [hc]
    clear hc hce
    go_wp2_with (first | (go_at_call 7; refine (RY.out _).mono ?_; rintro e w4 ⟨rfl, hb4⟩; have X4 : Hid ((Below W.heap.size W w4 ∧ w4.heap[W.heap.size]? = some (.cells #[.int .i64 s, .int .u64 (D : Int), .int .u64 (A : Int), .int .u64 (U : Int), .bool true, .int .i64 (fe : Int), .int .i64 (us : Int), .bool ev, .bool al] 27 (0, 0)) ∧ w4.heap[W.heap.size + 1]? = some (.cells #[.int .i64 (b : Int), .int .i64 (t : Int)] 57 (0, 0))) ∧ w4.heap[p7]? = some (.cells #[.pointer (some ⟨rb, 0, none⟩)] 29 (0, 0)) ∧ w4.heap[p8]? = some (.cells #[.int .u64 8192, .slice a mn c] 32 (0, 0))) := ⟨⟨below_to XC.out.1.1 hb4, below_box XC.out.1.2.1 hb4, below_box XC.out.1.2.2 hb4⟩, below_box XC.out.2.1 hb4, below_box XC.out.2.2 hb4⟩; have HB4 : Hid (Both F w4 rb 8192 (.slice a mn c) 12000 M) := HB.out.1.below hb4; clear hb4 c0 c1 c2 c3 c4 c5 c6 c7 c8 m0 m1 r0 r1; obtain ⟨c0, c1, c2, c3, c4, c5, c6, c7, c8⟩ := box9_facts X4.out.1.2.1; obtain ⟨m0, m1⟩ := box1_facts X4.out.2.1; obtain ⟨r0, r1, _, _⟩ := box_facts X4.out.2.2; obtain ⟨k0, k1, _, _⟩ := box_facts X4.out.1.2.2) | (go_at_call 8; refine (rcheck_any HU.out.1 HU.out.2.1 HU.out.2.2 8192 (by omega) a mn c _).mono ?_; rintro e w5 ⟨rfl, hb5⟩; rw [HCE.out]; have X5 : Hid ((Below W.heap.size W w5 ∧ w5.heap[W.heap.size]? = some (.cells #[.int .i64 s, .int .u64 (D : Int), .int .u64 (A : Int), .int .u64 (U : Int), .bool true, .int .i64 (fe : Int), .int .i64 (us : Int), .bool ev, .bool al] 27 (0, 0)) ∧ w5.heap[W.heap.size + 1]? = some (.cells #[.int .i64 (b : Int), .int .i64 (t : Int)] 57 (0, 0))) ∧ w5.heap[p7]? = some (.cells #[.pointer (some ⟨rb, 0, none⟩)] 29 (0, 0)) ∧ w5.heap[p8]? = some (.cells #[.int .u64 8192, .slice a mn c] 32 (0, 0))) := ⟨⟨below_to X4.out.1.1 hb5, below_box X4.out.1.2.1 hb5, below_box X4.out.1.2.2 hb5⟩, below_box X4.out.2.1 hb5, below_box X4.out.2.2 hb5⟩; have HB5 : Hid (Both F w5 rb 8192 (.slice a mn c) 12000 M) := HB4.out.below hb5; clear hb5 X4 HB4 c0 c1 c2 c3 c4 c5 c6 c7 c8 m0 m1 r0 r1 k0 k1))
    go_ret
    exact ⟨rfl, X5.out.1.1⟩
  obtain ⟨n, rfl, hg⟩ := gd_of (hce.trans hc) HU.out.1
  have HGD : Hid (Gd n D A U) := hg
  subst hc
  clear hce hg
  go_upto_region 6 with (first | (go_at_call 7; refine (RY.out _).mono ?_; rintro e w4 ⟨rfl, hb4⟩; have X4 : Hid ((Below W.heap.size W w4 ∧ w4.heap[W.heap.size]? = some (.cells #[.int .i64 (n : Int), .int .u64 (D : Int), .int .u64 (A : Int), .int .u64 (U : Int), .bool true, .int .i64 (fe : Int), .int .i64 (us : Int), .bool ev, .bool al] 27 (0, 0)) ∧ w4.heap[W.heap.size + 1]? = some (.cells #[.int .i64 (b : Int), .int .i64 (t : Int)] 57 (0, 0))) ∧ w4.heap[p7]? = some (.cells #[.pointer (some ⟨rb, 0, none⟩)] 29 (0, 0)) ∧ w4.heap[p8]? = some (.cells #[.int .u64 8192, .slice a mn c] 32 (0, 0))) := ⟨⟨below_to XC.out.1.1 hb4, below_box XC.out.1.2.1 hb4, below_box XC.out.1.2.2 hb4⟩, below_box XC.out.2.1 hb4, below_box XC.out.2.2 hb4⟩; have HB4 : Hid (Both F w4 rb 8192 (.slice a mn c) 12000 M) := HB.out.1.below hb4; clear hb4 c0 c1 c2 c3 c4 c5 c6 c7 c8 m0 m1 r0 r1; obtain ⟨c0, c1, c2, c3, c4, c5, c6, c7, c8⟩ := box9_facts X4.out.1.2.1; obtain ⟨m0, m1⟩ := box1_facts X4.out.2.1; obtain ⟨r0, r1, _, _⟩ := box_facts X4.out.2.2; obtain ⟨k0, k1, _, _⟩ := box_facts X4.out.1.2.2) | (go_at_call 8; refine (rcheck_any HU.out.1 HU.out.2.1 HU.out.2.2 8192 (by omega) a mn c _).mono ?_; rintro e w5 ⟨rfl, hb5⟩; rw [HCE.out]; have X5 : Hid ((Below W.heap.size W w5 ∧ w5.heap[W.heap.size]? = some (.cells #[.int .i64 (n : Int), .int .u64 (D : Int), .int .u64 (A : Int), .int .u64 (U : Int), .bool true, .int .i64 (fe : Int), .int .i64 (us : Int), .bool ev, .bool al] 27 (0, 0)) ∧ w5.heap[W.heap.size + 1]? = some (.cells #[.int .i64 (b : Int), .int .i64 (t : Int)] 57 (0, 0))) ∧ w5.heap[p7]? = some (.cells #[.pointer (some ⟨rb, 0, none⟩)] 29 (0, 0)) ∧ w5.heap[p8]? = some (.cells #[.int .u64 8192, .slice a mn c] 32 (0, 0))) := ⟨⟨below_to X4.out.1.1 hb5, below_box X4.out.1.2.1 hb5, below_box X4.out.1.2.2 hb5⟩, below_box X4.out.2.1 hb5, below_box X4.out.2.2 hb5⟩; have HB5 : Hid (Both F w5 rb 8192 (.slice a mn c) 12000 M) := HB4.out.below hb5; clear hb5 X4 HB4 c0 c1 c2 c3 c4 c5 c6 c7 c8 m0 m1 r0 r1 k0 k1))
  obtain ⟨m0, m1⟩ := box1_facts X5.out.2.1
  go_upto_region 7 with (go_at_call 15; refine (copy_any HB5.out.1 (by omega)).mono ?_; rintro e w5b ⟨rb2, F2, rfl, hr2, hF2, hb5⟩; have X5b : Hid (((Below W.heap.size W w5b ∧ w5b.heap[W.heap.size]? = some (.cells #[.int .i64 (n : Int), .int .u64 (D : Int), .int .u64 (A : Int), .int .u64 (U : Int), .bool true, .int .i64 (fe : Int), .int .i64 (us : Int), .bool ev, .bool al] 27 (0, 0)) ∧ w5b.heap[W.heap.size + 1]? = some (.cells #[.int .i64 (b : Int), .int .i64 (t : Int)] 57 (0, 0))) ∧ w5b.heap[p7]? = some (.cells #[.pointer (some ⟨rb, 0, none⟩)] 29 (0, 0)) ∧ w5b.heap[p8]? = some (.cells #[.int .u64 8192, .slice a mn c] 32 (0, 0))) ∧ RamAt w5b F rb 8192 12000 (.pointer none) M ∧ RamAt w5b F2 rb2 8192 12000 (.pointer none) M ∧ ∀ k, F2 k → p8 < k ∧ ¬ F k) := ⟨⟨⟨below_to X5.out.1.1 hb5, below_box X5.out.1.2.1 hb5, below_box X5.out.1.2.2 hb5⟩, below_box X5.out.2.1 hb5, below_box X5.out.2.2 hb5⟩, HB5.out.1.below hb5, hr2, fun k hk => by have h1 := hF2 k hk; have h2 := (Array.getElem?_eq_some_iff.1 X5.out.2.2).1; exact ⟨by omega, fun hf => by have := HB5.out.1.lt k hf; omega⟩⟩; clear hr2 hF2 hb5 X5 HB5 m0 m1)
  obtain ⟨c0, c1, c2, c3, c4, c5, c6, c7, c8⟩ := box9_facts X5b.out.1.1.2.1
  obtain ⟨k0, k1, _, _⟩ := box_facts X5b.out.1.1.2.2
  obtain ⟨m0, m1⟩ := box1_facts X5b.out.1.2.1
  go_upto_region 8 with (go_at_call 10; refine (lawOf_any HFU.out.1 HFU.out.2).mono ?_; rintro e w6 ⟨rfl, hb6⟩; have X6 : Hid (((Below W.heap.size W w6 ∧ w6.heap[W.heap.size]? = some (.cells #[.int .i64 (n : Int), .int .u64 (D : Int), .int .u64 (A : Int), .int .u64 (U : Int), .bool true, .int .i64 (fe : Int), .int .i64 (us : Int), .bool ev, .bool al] 27 (0, 0)) ∧ w6.heap[W.heap.size + 1]? = some (.cells #[.int .i64 (b : Int), .int .i64 (t : Int)] 57 (0, 0))) ∧ w6.heap[p7]? = some (.cells #[.pointer (some ⟨rb, 0, none⟩)] 29 (0, 0)) ∧ w6.heap[p8]? = some (.cells #[.int .u64 8192, .slice a mn c] 32 (0, 0))) ∧ RamAt w6 F rb 8192 12000 (.pointer none) M ∧ RamAt w6 F2 rb2 8192 12000 (.pointer none) M ∧ ∀ k, F2 k → p8 < k ∧ ¬ F k) := ⟨⟨⟨below_to X5b.out.1.1.1 hb6, below_box X5b.out.1.1.2.1 hb6, below_box X5b.out.1.1.2.2 hb6⟩, below_box X5b.out.1.2.1 hb6, below_box X5b.out.1.2.2 hb6⟩, X5b.out.2.1.below hb6, X5b.out.2.2.1.below hb6, X5b.out.2.2.2⟩; clear hb6 X5b c0 c1 c2 c3 c4 c5 c6 c7 c8 k0 k1 m0 m1)
  have hb7 : Below w6.heap.size w6 (w6.alloc (.cells #[.int .i64 (n : Int), .int .u64 (D : Int), .int .u64 (A : Int), .int .u64 (U : Int), .bool true, .int .u16 (fe : Int), .int .u16 (us : Int), .bool ev, .bool al] 40)) := one_box _ _
  have X7 : Hid (((Below W.heap.size W (w6.alloc (.cells #[.int .i64 (n : Int), .int .u64 (D : Int), .int .u64 (A : Int), .int .u64 (U : Int), .bool true, .int .u16 (fe : Int), .int .u16 (us : Int), .bool ev, .bool al] 40)) ∧ (w6.alloc (.cells #[.int .i64 (n : Int), .int .u64 (D : Int), .int .u64 (A : Int), .int .u64 (U : Int), .bool true, .int .u16 (fe : Int), .int .u16 (us : Int), .bool ev, .bool al] 40)).heap[W.heap.size]? = some (.cells #[.int .i64 (n : Int), .int .u64 (D : Int), .int .u64 (A : Int), .int .u64 (U : Int), .bool true, .int .i64 (fe : Int), .int .i64 (us : Int), .bool ev, .bool al] 27 (0, 0)) ∧ (w6.alloc (.cells #[.int .i64 (n : Int), .int .u64 (D : Int), .int .u64 (A : Int), .int .u64 (U : Int), .bool true, .int .u16 (fe : Int), .int .u16 (us : Int), .bool ev, .bool al] 40)).heap[W.heap.size + 1]? = some (.cells #[.int .i64 (b : Int), .int .i64 (t : Int)] 57 (0, 0))) ∧ (w6.alloc (.cells #[.int .i64 (n : Int), .int .u64 (D : Int), .int .u64 (A : Int), .int .u64 (U : Int), .bool true, .int .u16 (fe : Int), .int .u16 (us : Int), .bool ev, .bool al] 40)).heap[p7]? = some (.cells #[.pointer (some ⟨rb, 0, none⟩)] 29 (0, 0)) ∧ (w6.alloc (.cells #[.int .i64 (n : Int), .int .u64 (D : Int), .int .u64 (A : Int), .int .u64 (U : Int), .bool true, .int .u16 (fe : Int), .int .u16 (us : Int), .bool ev, .bool al] 40)).heap[p8]? = some (.cells #[.int .u64 8192, .slice a mn c] 32 (0, 0))) ∧ RamAt (w6.alloc (.cells #[.int .i64 (n : Int), .int .u64 (D : Int), .int .u64 (A : Int), .int .u64 (U : Int), .bool true, .int .u16 (fe : Int), .int .u16 (us : Int), .bool ev, .bool al] 40)) F rb 8192 12000 (.pointer none) M ∧ RamAt (w6.alloc (.cells #[.int .i64 (n : Int), .int .u64 (D : Int), .int .u64 (A : Int), .int .u64 (U : Int), .bool true, .int .u16 (fe : Int), .int .u16 (us : Int), .bool ev, .bool al] 40)) F2 rb2 8192 12000 (.pointer none) M ∧ (∀ k, F2 k → p8 < k ∧ ¬ F k) ∧ (w6.alloc (.cells #[.int .i64 (n : Int), .int .u64 (D : Int), .int .u64 (A : Int), .int .u64 (U : Int), .bool true, .int .u16 (fe : Int), .int .u16 (us : Int), .bool ev, .bool al] 40)).heap[w6.heap.size]? = some (.cells #[.int .i64 (n : Int), .int .u64 (D : Int), .int .u64 (A : Int), .int .u64 (U : Int), .bool true, .int .u16 (fe : Int), .int .u16 (us : Int), .bool ev, .bool al] 40 (0, 0)) ∧ (∀ k, F k → k < w6.heap.size) ∧ (∀ k, F2 k → k < w6.heap.size) ∧ p8 < w6.heap.size) := ⟨⟨⟨below_to X6.out.1.1.1 hb7, below_box X6.out.1.1.2.1 hb7, below_box X6.out.1.1.2.2 hb7⟩, below_box X6.out.1.2.1 hb7, below_box X6.out.1.2.2 hb7⟩, X6.out.2.1.below hb7, X6.out.2.2.1.below hb7, X6.out.2.2.2, heap_alloc_new _ _, X6.out.2.1.lt, X6.out.2.2.1.lt, (Array.getElem?_eq_some_iff.1 X6.out.1.2.2).1⟩
  clear hb7 X6
  generalize w6.alloc (.cells #[.int .i64 (n : Int), .int .u64 (D : Int), .int .u64 (A : Int), .int .u64 (U : Int), .bool true, .int .u16 (fe : Int), .int .u16 (us : Int), .bool ev, .bool al] 40) = w7 at *
  generalize w6.heap.size = qb at *
  go_upto_region 9 with fail
  have hb8 : Below w7.heap.size w7 (w7.alloc (.cells #[.slice none 0 0] 46)) := one_box _ _
  have X8 : Hid (((Below W.heap.size W (w7.alloc (.cells #[.slice none 0 0] 46)) ∧ (w7.alloc (.cells #[.slice none 0 0] 46)).heap[W.heap.size]? = some (.cells #[.int .i64 (n : Int), .int .u64 (D : Int), .int .u64 (A : Int), .int .u64 (U : Int), .bool true, .int .i64 (fe : Int), .int .i64 (us : Int), .bool ev, .bool al] 27 (0, 0)) ∧ (w7.alloc (.cells #[.slice none 0 0] 46)).heap[W.heap.size + 1]? = some (.cells #[.int .i64 (b : Int), .int .i64 (t : Int)] 57 (0, 0))) ∧ (w7.alloc (.cells #[.slice none 0 0] 46)).heap[p7]? = some (.cells #[.pointer (some ⟨rb, 0, none⟩)] 29 (0, 0)) ∧ (w7.alloc (.cells #[.slice none 0 0] 46)).heap[p8]? = some (.cells #[.int .u64 8192, .slice a mn c] 32 (0, 0))) ∧ RamAt (w7.alloc (.cells #[.slice none 0 0] 46)) F rb 8192 12000 (.pointer none) M ∧ RamAt (w7.alloc (.cells #[.slice none 0 0] 46)) F2 rb2 8192 12000 (.pointer none) M ∧ (∀ k, F2 k → p8 < k ∧ ¬ F k) ∧ (w7.alloc (.cells #[.slice none 0 0] 46)).heap[qb]? = some (.cells #[.int .i64 (n : Int), .int .u64 (D : Int), .int .u64 (A : Int), .int .u64 (U : Int), .bool true, .int .u16 (fe : Int), .int .u16 (us : Int), .bool ev, .bool al] 40 (0, 0)) ∧ (∀ k, F k → k < qb) ∧ (∀ k, F2 k → k < qb) ∧ p8 < qb ∧ (w7.alloc (.cells #[.slice none 0 0] 46)).heap[w7.heap.size]? = some (.cells #[.slice none 0 0] 46 (0, 0)) ∧ qb < w7.heap.size) := ⟨⟨⟨below_to X7.out.1.1.1 hb8, below_box X7.out.1.1.2.1 hb8, below_box X7.out.1.1.2.2 hb8⟩, below_box X7.out.1.2.1 hb8, below_box X7.out.1.2.2 hb8⟩, X7.out.2.1.below hb8, X7.out.2.2.1.below hb8, X7.out.2.2.2.1, below_box X7.out.2.2.2.2.1 hb8, X7.out.2.2.2.2.2.1, X7.out.2.2.2.2.2.2.1, X7.out.2.2.2.2.2.2.2, heap_alloc_new _ _, (Array.getElem?_eq_some_iff.1 X7.out.2.2.2.2.1).1⟩
  clear hb8 X7
  generalize w7.alloc (.cells #[.slice none 0 0] 46) = w8 at *
  generalize w7.heap.size = ao at *
  obtain ⟨k0, k1, _, _⟩ := box_facts X8.out.1.1.2.2
  go_upto_region 10 with fail
  have hb9 : Below w8.heap.size w8 (w8.alloc (.cells #[.int .i64 (t : Int)] 3)) := one_box _ _
  have X9 : Hid (((Below W.heap.size W (w8.alloc (.cells #[.int .i64 (t : Int)] 3)) ∧ (w8.alloc (.cells #[.int .i64 (t : Int)] 3)).heap[W.heap.size]? = some (.cells #[.int .i64 (n : Int), .int .u64 (D : Int), .int .u64 (A : Int), .int .u64 (U : Int), .bool true, .int .i64 (fe : Int), .int .i64 (us : Int), .bool ev, .bool al] 27 (0, 0)) ∧ (w8.alloc (.cells #[.int .i64 (t : Int)] 3)).heap[W.heap.size + 1]? = some (.cells #[.int .i64 (b : Int), .int .i64 (t : Int)] 57 (0, 0))) ∧ (w8.alloc (.cells #[.int .i64 (t : Int)] 3)).heap[p7]? = some (.cells #[.pointer (some ⟨rb, 0, none⟩)] 29 (0, 0)) ∧ (w8.alloc (.cells #[.int .i64 (t : Int)] 3)).heap[p8]? = some (.cells #[.int .u64 8192, .slice a mn c] 32 (0, 0))) ∧ RamAt (w8.alloc (.cells #[.int .i64 (t : Int)] 3)) F rb 8192 12000 (.pointer none) M ∧ RamAt (w8.alloc (.cells #[.int .i64 (t : Int)] 3)) F2 rb2 8192 12000 (.pointer none) M ∧ (∀ k, F2 k → p8 < k ∧ ¬ F k) ∧ (w8.alloc (.cells #[.int .i64 (t : Int)] 3)).heap[qb]? = some (.cells #[.int .i64 (n : Int), .int .u64 (D : Int), .int .u64 (A : Int), .int .u64 (U : Int), .bool true, .int .u16 (fe : Int), .int .u16 (us : Int), .bool ev, .bool al] 40 (0, 0)) ∧ (∀ k, F k → k < qb) ∧ (∀ k, F2 k → k < qb) ∧ p8 < qb ∧ (w8.alloc (.cells #[.int .i64 (t : Int)] 3)).heap[ao]? = some (.cells #[.slice none 0 0] 46 (0, 0)) ∧ qb < ao ∧ (w8.alloc (.cells #[.int .i64 (t : Int)] 3)).heap[w8.heap.size]? = some (.cells #[.int .i64 (t : Int)] 3 (0, 0)) ∧ ao < w8.heap.size) := ⟨⟨⟨below_to X8.out.1.1.1 hb9, below_box X8.out.1.1.2.1 hb9, below_box X8.out.1.1.2.2 hb9⟩, below_box X8.out.1.2.1 hb9, below_box X8.out.1.2.2 hb9⟩, X8.out.2.1.below hb9, X8.out.2.2.1.below hb9, X8.out.2.2.2.1, below_box X8.out.2.2.2.2.1 hb9, X8.out.2.2.2.2.2.1, X8.out.2.2.2.2.2.2.1, X8.out.2.2.2.2.2.2.2.1, below_box X8.out.2.2.2.2.2.2.2.2.1 hb9, X8.out.2.2.2.2.2.2.2.2.2, heap_alloc_new _ _, (Array.getElem?_eq_some_iff.1 X8.out.2.2.2.2.2.2.2.2.1).1⟩
  clear hb9 X8 k0 k1
  generalize w8.alloc (.cells #[.int .i64 (t : Int)] 3) = w9 at *
  generalize w8.heap.size = ro at *
  obtain ⟨x1, x2, x3, x4, x5, x6, x7, x8, x9, x10, x11, x12⟩ := X9.out
  have hle := x2.le
  obtain ⟨R, hR⟩ : ∃ R, (giveR (devW b) (n : Int) D A U true al 65537 (t, []) M fe us) = R := ⟨_, rfl⟩
  have HR : Hid ((∀ x, endM R n U ev x ≠ M x → inU n U x ∨ inW R.s.2 x) ∧ (∀ s ∈ R.s.2, SegOk s) ∧ R.s.2.length ≤ 40000 + R.s.2.length) := by
    rw [← hR]
    exact ⟨fun x hx => end_in (ev := ev) (by have := HGD.out.n1; omega) 65537 (t, []) M fe us x hx, give_segs HBT.out.1 HU.out.1 65537 (t, []) M fe us hle (by intro g hg; cases hg), by omega⟩
  have hgl : Gl (Iw rb b t w9.heap.size ro ao p7 (W.heap.size + 1)) budW rb qb (n : Int) D A U true ev al w9 F (fun k => k = ro ∨ k = ao ∨ k = p7 ∨ k = W.heap.size + 1) w9 (t, []) M fe us F (fun k => k = ro ∨ k = ao ∨ k = p7 ∨ k = W.heap.size + 1) 12000 := by
    have hro := (Array.getElem?_eq_some_iff.1 x11).1
    have hp := HP.out
    have hp0 := HP0.out
    refine ⟨x2, x5, ⟨none, 0, ⟨.inl rfl, .inr (.inl rfl), .inr (.inr (.inl rfl)), .inr (.inr (.inr rfl)), fun k hk => by simp [Value.ownBlock] at hk, ?_⟩, x11, x9, x1.2.1, x1.1.2.2, ⟨rfl, .inl ⟨rfl, rfl⟩⟩, ⟨by omega, by omega, by omega, by omega, by omega, by omega, by omega, by omega, by omega⟩, Nat.le_refl _, HBT.out.2, by simp only [List.length_nil]; have := HBT.out.2; omega⟩, ?_, fun hf => by have := x6 _ hf; omega, by unfold budW; have := HBT.out.2; simp only; omega, Step.refl _ _⟩
    · rintro k (rfl | rfl | rfl | rfl) <;> omega
    · rintro k (rfl | rfl | rfl | rfl)
      · exact ⟨fun hf => by have := x6 _ hf; omega, by omega⟩
      · exact ⟨fun hf => by have := x6 _ hf; omega, by omega⟩
      · exact ⟨fun hf => by have := HB.out.2.2 _ hf; omega, by omega⟩
      · exact ⟨fun hf => by have := HB.out.2.1 _ hf; omega, by omega⟩
  have KS : Hid (Calls Try.prog 11 #[.pointer (some ⟨qb, 0, none⟩), .pointer (some ⟨rb, 0, none⟩), .func (.func 16) #[] #[.pointer (some ⟨ro, 0, none⟩), .pointer (some ⟨ao, 0, none⟩), .pointer (some ⟨p7, 0, none⟩), .pointer (some ⟨W.heap.size + 1, 0, none⟩)]] w9 fun e w' => e = .returned (.tuple #[.bool (tellB (endM R n U ev) n A R.us us ev), .int .i64 R.e]) ∧ Send (Iw rb b t w9.heap.size ro ao p7 (W.heap.size + 1)) rb qb n D A U ev al w9 F (fun k => k = ro ∨ k = ao ∨ k = p7 ∨ k = W.heap.size + 1) R w') := serve_any (dev_writes rb b t w9.heap.size ro ao p7 (W.heap.size + 1) HBT.out.1) HGD.out HFU.out.1 HFU.out.2 hgl R hR
  have XS : Hid (((Below W.heap.size W w9 ∧ w9.heap[W.heap.size]? = some (.cells #[.int .i64 (n : Int), .int .u64 (D : Int), .int .u64 (A : Int), .int .u64 (U : Int), .bool true, .int .i64 (fe : Int), .int .i64 (us : Int), .bool ev, .bool al] 27 (0, 0)) ∧ w9.heap[W.heap.size + 1]? = some (.cells #[.int .i64 (b : Int), .int .i64 (t : Int)] 57 (0, 0))) ∧ w9.heap[p7]? = some (.cells #[.pointer (some ⟨rb, 0, none⟩)] 29 (0, 0)) ∧ w9.heap[p8]? = some (.cells #[.int .u64 8192, .slice a mn c] 32 (0, 0))) ∧ RamAt w9 F2 rb2 8192 12000 (.pointer none) M ∧ (∀ k, F2 k → p8 < k ∧ ¬ F k ∧ k < qb) ∧ p8 < qb ∧ qb < ao ∧ ao < ro ∧ (∀ k, F k → W.heap.size + 2 ≤ k)) := ⟨x1, x3, fun k hk => ⟨(x4 k hk).1, (x4 k hk).2, x7 k hk⟩, x8, x10, x12, HB.out.2.1⟩
  obtain ⟨m0, m1⟩ := box1_facts x1.2.1
  have hmf : ∀ (fn : Fn) (first cap : Array Value) (w : World), (Instr.makeFunc fn first cap).run Try.prog w = .ok (.func fn first cap) w := fun _ _ _ _ => rfl
  obtain ⟨tb, htb⟩ : ∃ tb, tellB (endM R n U ev) n A R.us us ev = tb := ⟨_, rfl⟩
  obtain ⟨re, hre⟩ : ∃ re, R.e = re := ⟨_, rfl⟩
  rw [htb, hre] at KS
  clear hgl x1 x2 x3 x4 x5 x6 x7 x8 x9 x10 x11 x12 hR htb hre hle HB X9
  go_upto_region 11 with (go_at_call 11; refine (KS.out).mono ?_; rintro e wa ⟨rfl, F3, O3, κ3, hr3, hq3, hi3, hO3, hn3, hk3, hs3⟩; have Xa : Hid (RamAt wa F3 rb 8192 κ3 (.pointer none) (endM R n U ev) ∧ Iw rb b t w9.heap.size ro ao p7 (W.heap.size + 1) R.s O3 wa ∧ κ3 ≤ 900002 ∧ Step (fun k => (F k ∨ (fun k => k = ro ∨ k = ao ∨ k = p7 ∨ k = W.heap.size + 1) k) ∨ k = qb) w9 (fun k => (F3 k ∨ O3 k) ∨ k = qb) wa) := ⟨hr3, hi3, hk3, hs3⟩; clear hr3 hq3 hi3 hO3 hn3 hk3 hs3 m0 m1 hmf KS)
  obtain ⟨⟨y1, y2, y3⟩, y4, y5, y6, y7, y8, y9⟩ := XS.out
  obtain ⟨z1, ⟨va, vc, i1, i2, i3, i4, i5, i6, i7⟩, z3, z4⟩ := Xa.out
  have hp := HP.out
  have hp0 := HP0.out
  have hbW : Below W.heap.size W wa := y1.1.trans (z4.below y1.1.size ?sidew)
  case sidew =>
    rintro k ((hf | hf | hf | hf | hf) | hf)
    · have := y9 k hf; omega
    · have := y1.1.size; have := (Array.getElem?_eq_some_iff.1 y1.2.2).1; omega
    · omega
    · omega
    · omega
    · omega
  have hb1 : wa.heap[W.heap.size]? = some (.cells #[.int .i64 (n : Int), .int .u64 (D : Int), .int .u64 (A : Int), .int .u64 (U : Int), .bool true, .int .i64 (fe : Int), .int .i64 (us : Int), .bool ev, .bool al] 27 (0, 0)) := (z4.block _ (Array.getElem?_eq_some_iff.1 y1.2.1).1 (by
    rintro ((hf | hf | hf | hf | hf) | hf)
    · have := y9 _ hf; omega
    · omega
    · omega
    · omega
    · omega
    · omega)).trans y1.2.1
  have hc2 : RamAt wa F2 rb2 8192 12000 (.pointer none) M := y4.step z4 (by
    rintro k hk ((hf | hf | hf | hf | hf) | hf)
    · exact (y5 k hk).2.1 hf
    · have := (y5 k hk).2.2; omega
    · have := (y5 k hk).2.2; omega
    · have := (y5 k hk).1; omega
    · have := (y5 k hk).1; omega
    · have := (y5 k hk).2.2; omega)
  obtain ⟨l, hl, hKD, hlin⟩ := spans_told hc2 z1 (by omega) HR.out.1 HGD.out HR.out.2.1 9000
  obtain ⟨L, hL⟩ : ∃ L, l.length = L := ⟨_, rfl⟩
  obtain ⟨ms, hms⟩ : ∃ ms, R.s.2 = ms := ⟨_, rfl⟩
  rw [hms] at i3 i6 hlin
  obtain ⟨m, hm⟩ : ∃ m, ms.length = m := ⟨_, rfl⟩
  rw [hm] at i3 i6
  have XA : Hid (Below W.heap.size W wa ∧ wa.heap[W.heap.size]? = some (.cells #[.int .i64 (n : Int), .int .u64 (D : Int), .int .u64 (A : Int), .int .u64 (U : Int), .bool true, .int .i64 (fe : Int), .int .i64 (us : Int), .bool ev, .bool al] 27 (0, 0)) ∧ wa.heap[p7]? = some (.cells #[.pointer (some ⟨rb, 0, none⟩)] 29 (0, 0)) ∧ wa.heap[ao]? = some (.cells #[.slice va m vc] 46 (0, 0)) ∧ SegIn w9.heap.size wa (.slice va m vc) ms) := ⟨hbW, hb1, i4, i3, i6⟩
  have HM : Hid (ms.length = m ∧ (∀ s ∈ ms, SegOk s) ∧ l.length = L ∧ l.length ≤ 10000 ∧ ∀ p ∈ l, 1 ≤ p.2 ∧ 2147483648 ≤ p.1 ∧ p.1 + p.2 ≤ 2147491840 ∧ ∀ i, i < p.2 → inU n U (p.1 + i) ∨ inW ms (p.1 + i)) := ⟨hm, hms ▸ HR.out.2.1, hL, hl, hlin⟩
  have hm40 : m ≤ 40000 := by have := i7.2.2.2; rw [hms, hm] at this; omega
  have HM4 : Hid (m ≤ 40000 ∧ L ≤ 10000) := ⟨hm40, by omega⟩
  have HKD : Hid (∀ V', Below wa.heap.size wa V' → Calls Try.prog 19 #[.pointer (some ⟨rb2, 0, none⟩), .pointer (some ⟨rb, 0, none⟩), .int .i64 9000] V' fun e w' => ∃ v, e = .returned v ∧ SpanIn V'.heap.size w' v l ∧ Below V'.heap.size V' w') := hKD
  clear y1 y2 y3 y4 y5 y6 y7 y8 y9 z1 z3 z4 i1 i2 i3 i4 i5 i6 i7 hp hp0 hbW hb1 hc2 hl hKD hlin hL hm hm40 hms XS Xa HR
  obtain ⟨c0, c1, c2, c3, c4, c5, c6, c7, c8⟩ := box9_facts XA.out.2.1
  go_upto_region 12 with (go_at_call 18; refine (rareas_any n D A U (by have := HGD.out.n2; omega) _).mono ?_; rintro e wb ⟨ug, rfl, hug, hgb, hbb⟩; have XB : Hid (Below W.heap.size W wb ∧ wb.heap[p7]? = some (.cells #[.pointer (some ⟨rb, 0, none⟩)] 29 (0, 0)) ∧ wb.heap[ao]? = some (.cells #[.slice va m vc] 46 (0, 0)) ∧ SegIn w9.heap.size wb (.slice va m vc) ms ∧ wb.heap[ug]? = some (.cells #[.int .u64 (D : Int), .int .u64 (16 * (n : Int)), .int .u64 (A : Int), .int .u64 (6 + 2 * (n : Int)), .int .u64 (U : Int), .int .u64 (6 + 8 * (n : Int))] 48 (0, 0)) ∧ Below wa.heap.size wa wb) := ⟨below_to XA.out.1 hbb, below_box XA.out.2.2.1 hbb, below_box XA.out.2.2.2.1 hbb, XA.out.2.2.2.2.kept (fun g hg => hbb.block g (XA.out.2.2.2.2.lt g hg).2), hgb, hbb⟩; clear hug hgb hbb XA c0 c1 c2 c3 c4 c5 c6 c7 c8)
  obtain ⟨m0, m1⟩ := box1_facts XB.out.2.1
  go_upto_region 13 with (go_at_call 19; refine (HKD.out _ XB.out.2.2.2.2.2).mono ?_; rintro e wc ⟨dv, rfl, hsp, hbc⟩; obtain ⟨ad, cd, rfl⟩ := hsp.form; have XCc : Hid (Lw W wc ao va m vc ms w9.heap.size ug n D A U ad l.length cd l wb.heap.size) := ⟨below_to XB.out.1 hbc, below_box XB.out.2.2.1 hbc, XB.out.2.2.2.1.kept (fun g hg => hbc.block g (XB.out.2.2.2.1.lt g hg).2), below_box XB.out.2.2.2.2.1 hbc, hsp⟩; clear hsp hbc HKD XB m0 m1)
  rw [HM.out.2.2.1] at XCc ⊢
  generalize wb.heap.size = dB at *

  have XL : Hid (Lw W wc ao va m vc ms w9.heap.size ug n D A U ad L cd l dB) := XCc.out
  clear XCc XC
  go_upto_region 14 with fail
  go_loopw [15] (fun x wr => ∃ i : Nat, i ≤ L ∧ x = .int .i64 (i : Int) ∧ Below wc.heap.size wc wr) (fun x _ => L - (intOf x).toNat)
  case atStart => exact ⟨0, by omega, rfl, Below.refl _ _⟩
  case round =>
    obtain ⟨i, hi, rfl, hbr⟩ := hrel
    have Xr : Hid (Lw W wr ao va m vc ms w9.heap.size ug n D A U ad L cd l dB) := XL.out.below hbr
    have HBr : Hid (Below wc.heap.size wc wr) := hbr
    clear hbr
    by_cases hlt : i < L
    case neg =>
      have hnot : ¬ (i : Int) < (L : Int) := by omega
      go_wp2_with fail
      go_ret
      exact ⟨rfl, Xr.out.1⟩
    have hil : (i : Int) < (L : Int) := by omega
    obtain ⟨g, p1, p2, rfl, s0, s1, hgl, hpf⟩ := span_at Xr.out.2.2.2.2 HM.out.2.2.1 hlt HM.out.2.2.2.2
    have HPF : Hid (1 ≤ p2 ∧ 2147483648 ≤ p1 ∧ p1 + p2 ≤ 2147491840 ∧ ∀ i, i < p2 → inU n U (p1 + i) ∨ inW ms (p1 + i)) := hpf
    have HCS : Hid (wr.cell? ⟨g, i * 2, none⟩ = some (.int .u64 (p1 : Nat)) ∧ wr.cell? ⟨g, i * 2 + 1, none⟩ = some (.int .u64 (p2 : Nat)) ∧ g < wr.heap.size) := ⟨s0, s1, hgl⟩
    have HI : Hid (i < L ∧ i ≤ 100000) := ⟨hlt, by have := HM4.out; omega⟩
    clear hpf hi hlt hgl
    go_upto_region 17 with fail
    go_loopw [16] (fun x wq => ∃ (j : Nat), j ≤ p2 ∧ x = .int .u64 ((p1 + j : Nat) : Int) ∧ Below wr.heap.size wr wq) (fun x _ => p1 + p2 - (intOf x).toNat)
    case atStart => exact ⟨0, Nat.zero_le _, rfl, Below.refl _ _⟩
    case round =>
      obtain ⟨j, hj, rfl, hbq⟩ := hrel
      rename World => wq
      have Xq : Hid (Lw W wq ao va m vc ms w9.heap.size ug n D A U (some ⟨g, 0, none⟩) L cd l dB) := Xr.out.below hbq
      have HBq : Hid (Below wr.heap.size wr wq) := hbq
      have s0 : wq.cell? ⟨g, i * 2, none⟩ = some (.int .u64 (p1 : Nat)) := (hbq.cell HCS.out.2.2).trans HCS.out.1
      have s1 : wq.cell? ⟨g, i * 2 + 1, none⟩ = some (.int .u64 (p2 : Nat)) := (hbq.cell HCS.out.2.2).trans HCS.out.2.1
      clear hbq
      obtain ⟨x, hx⟩ : ∃ x, p1 + j = x := ⟨_, rfl⟩
      have HX : Hid (p1 + j = x ∧ x < 4294967296) := at_small hx hj HPF.out.2.2.1
      rw [hx]
      clear hx hj
      by_cases hjl : j < p2
      case neg =>
        have e1 : IntKind.u64.wrap ((x : Int) - (p1 : Int)) = (j : Int) := sub_back2 HX.out.1 HX.out.2
        have e2 : wrap64 ((i : Int) + 1) = ((i + 1 : Nat) : Int) := count_up i HI.out.2
        go_wp2_with fail
        go_quiet (fail)
        go_wp2_with fail
        go_roundw
        case rel => exact ⟨i + 1, HI.out.1, (by first | rfl | rw [e2]), (by first | exact below_to HBr.out HBq.out | exact below_drewN (below_to HBr.out HBq.out) _)⟩
        case measure => exact less_one (by first | rfl | rw [e2]) HI.out.1
      obtain ⟨y, bu, e2, hbu, hbuN, hbuU⟩ := used_at (n := n) (U := U) HX.out.2 HU.out.2.2 HGD.out.u2
      have HIN : Hid (inU n U x ∨ inW ms x) := in_at HX.out.1 hjl HPF.out.2.2.2
      have HJ : Hid (j < p2) := hjl
      have HBU : Hid (bu = true ↔ inU n U x) := hbuU
      obtain ⟨u4, u5⟩ : wq.cell? ⟨ug, 4, none⟩ = some (.int .u64 (U : Int)) ∧ wq.cell? ⟨ug, 5, none⟩ = some (.int .u64 (6 + 8 * (n : Int))) := ⟨cellOf Xq.out.2.2.2.1 4 _ rfl, cellOf Xq.out.2.2.2.1 5 _ rfl⟩
      have e1 : IntKind.u64.wrap ((x : Int) - (p1 : Int)) = (j : Int) := sub_back2 HX.out.1 HX.out.2
      clear hbuU
      go_wp2_with fail
      go_quiet (fail)
      go_wp2_with fail
      go_quiet (fail)
      go_wp2_with fail
      clear u4 u5 e2 hbu hbuN e1 hjl s0 s1 hil
      go_loopw [17, 18] (fun xb xk wz => ∃ (k : Nat), k ≤ m ∧ xk = .int .i64 (k : Int) ∧ InR n U ms x k xb ∧ Below wq.heap.size wq wz) (fun _ xk _ => m - (intOf xk).toNat)
      case atStart => exact ⟨0, Nat.zero_le _, rfl, inr_start HBU.out, (by first | exact Below.refl _ _ | exact below_drewN (Below.refl _ _) _ | exact below_drewN (below_drewN (Below.refl _ _) _) _)⟩
      case round =>
        obtain ⟨k, hk, rfl, hbb, hbz⟩ := hrel
        rename World => wz
        have Xz : Hid (Lw W wz ao va m vc ms w9.heap.size ug n D A U (some ⟨g, 0, none⟩) L cd l dB) := Xq.out.below hbz
        have HBz : Hid (Below wq.heap.size wq wz) := hbz
        clear hbz
        obtain ⟨a0, a1⟩ := box1_facts Xz.out.2.1
        rcases hbb with rfl | ⟨rfl, hbb⟩
        · obtain ⟨x1, hx1⟩ : ∃ x1, x + 1 = x1 := ⟨_, rfl⟩
          have HX2 : Hid (x + 1 = x1) := hx1
          have e5 : IntKind.u64.wrap ((x : Int) + 1) = (x1 : Int) := add_one2 hx1 HX.out.2
          clear hx1 hk
          by_cases hkn : k < m
          case neg =>
            go_wp2_with fail
            go_roundw
            case rel => exact ⟨j + 1, HJ.out, at_next HX.out.1 HX2.out, (by first | exact below_to HBq.out HBz.out | exact below_drewN (below_to HBq.out HBz.out) _)⟩
            case measure => exact at_less HX.out.1 HX2.out HJ.out
          go_wp2_with fail
          go_roundw
          case rel => exact ⟨j + 1, HJ.out, at_next HX.out.1 HX2.out, (by first | exact below_to HBq.out HBz.out | exact below_drewN (below_to HBq.out HBz.out) _)⟩
          case measure => exact at_less HX.out.1 HX2.out HJ.out
        · have HBB : Hid (¬ inU n U x ∧ ∀ q, q < k → ¬ hitS ms q x) := hbb
          clear hbb
          have hkm : k < m := third_on HM.out.1 HIN.out HBB.out
          obtain ⟨sg, f0, f1, f2, rfl, d0, d1, d2, hh, y2, e4, bs, hbs, hbsN, hbS⟩ := seg_at (x := x) Xz.out.2.2.1 HM.out.1 hkm HM.out.2.1 HX.out.2
          have e3 : wrap64 ((k : Int) + 1) = ((k + 1 : Nat) : Int) := count_up k (Nat.le_trans (Nat.le_of_lt hkm) (Nat.le_trans HM4.out.1 (by decide)))
          have HH : Hid (hitS ms k x ↔ (f2 = true ∧ bs = true)) := by rw [hbS]; exact hh
          have HKM : Hid (k < m) := hkm
          clear hk hh hbS
          cases f2 with
          | false =>
            clear e4 hbs hbsN
            go_upto_region 23 with fail
            refine wp_region_held_drew (S := fun Z => Z.cell? ⟨ao, 0, none⟩ = some (.slice (some ⟨sg, 0, none⟩) m vc) ∧ Z.cell? ⟨sg, k * 3, none⟩ = some (.int .u64 (f0 : Nat)) ∧ Z.cell? ⟨sg, k * 3 + 1, none⟩ = some (.int .u64 (f1 : Nat)) ∧ Z.cell? ⟨sg, k * 3 + 2, none⟩ = some (.bool false)) (by kernel_rfl) ⟨a0, d0, d1, d2⟩ ?_
            intro hS
            refine wpAnyH_take (i := 0) (v := ?_) rfl (by kernel_rfl) (by kernel_rfl) (by kernel_rfl) (fun _ _ _ h => h) (Or.inl ⟨by kernel_rfl, ?_⟩) hS ?_
            rotate_left
            · intro w hSw; (try dsimp only at hSw); go_simp; try (with_reducible rfl)
            (try simp only [Act.put, List.getElem_toArray, List.getElem_cons_succ, List.getElem_cons_zero, List.setIfInBounds_toArray, List.set_cons_zero, List.set_cons_succ])
            refine wpAnyH_take (i := 1) (v := ?_) rfl (by kernel_rfl) (by kernel_rfl) (by kernel_rfl) (fun _ _ _ h => h) (Or.inl ⟨by kernel_rfl, ?_⟩) hS ?_
            rotate_left
            · intro w hSw; (try dsimp only at hSw); go_simp; try (with_reducible rfl)
            (try simp only [Act.put, List.getElem_toArray, List.getElem_cons_succ, List.getElem_cons_zero, List.setIfInBounds_toArray, List.set_cons_zero, List.set_cons_succ])
            refine wpAnyH_take (i := 2) (v := ?_) rfl (by kernel_rfl) (by kernel_rfl) (by kernel_rfl) (fun _ _ _ h => h) (Or.inl ⟨by kernel_rfl, ?_⟩) hS ?_
            rotate_left
            · intro w hSw; (try dsimp only at hSw); go_simp; try (with_reducible rfl)
            (try simp only [Act.put, List.getElem_toArray, List.getElem_cons_succ, List.getElem_cons_zero, List.setIfInBounds_toArray, List.set_cons_zero, List.set_cons_succ])
            refine wpAnyH_take (i := 3) (v := ?_) rfl (by kernel_rfl) (by kernel_rfl) (by kernel_rfl) (fun _ _ _ h => h) (Or.inl ⟨by kernel_rfl, ?_⟩) hS ?_
            rotate_left
            · intro w hSw; (try dsimp only at hSw); go_simp; try (with_reducible rfl)
            (try simp only [Act.put, List.getElem_toArray, List.getElem_cons_succ, List.getElem_cons_zero, List.setIfInBounds_toArray, List.set_cons_zero, List.set_cons_succ])
            refine wpAnyH_take (i := 4) (v := ?_) rfl (by kernel_rfl) (by kernel_rfl) (by kernel_rfl) (fun _ _ _ h => h) (Or.inl ⟨by kernel_rfl, ?_⟩) hS ?_
            rotate_left
            · intro w hSw; (try dsimp only at hSw); go_simp; try (with_reducible rfl)
            (try simp only [Act.put, List.getElem_toArray, List.getElem_cons_succ, List.getElem_cons_zero, List.setIfInBounds_toArray, List.set_cons_zero, List.set_cons_succ])
            refine wpAnyH_take (i := 5) (v := ?_) rfl (by kernel_rfl) (by kernel_rfl) (by kernel_rfl) (fun _ _ _ h => h) (Or.inl ⟨by kernel_rfl, ?_⟩) hS ?_
            rotate_left
            · intro w hSw; (try dsimp only at hSw); go_simp; try (with_reducible rfl)
            (try simp only [Act.put, List.getElem_toArray, List.getElem_cons_succ, List.getElem_cons_zero, List.setIfInBounds_toArray, List.set_cons_zero, List.set_cons_succ])
            refine wpAnyH_take (i := 6) (v := undef) rfl (by kernel_rfl) (by kernel_rfl) (by kernel_rfl) (fun _ _ _ h => h) (Or.inr ⟨by kernel_rfl, rfl⟩) hS ?_
            (try simp only [Act.put, List.getElem_toArray, List.getElem_cons_succ, List.getElem_cons_zero, List.setIfInBounds_toArray, List.set_cons_zero, List.set_cons_succ])
            refine wpAnyH_take (i := 7) (v := undef) rfl (by kernel_rfl) (by kernel_rfl) (by kernel_rfl) (fun _ _ _ h => h) (Or.inr ⟨by kernel_rfl, rfl⟩) hS ?_
            (try simp only [Act.put, List.getElem_toArray, List.getElem_cons_succ, List.getElem_cons_zero, List.setIfInBounds_toArray, List.set_cons_zero, List.set_cons_succ])
            refine wpAnyH_take (i := 8) (v := undef) rfl (by kernel_rfl) (by kernel_rfl) (by kernel_rfl) (fun _ _ _ h => h) (Or.inr ⟨by kernel_rfl, rfl⟩) hS ?_
            (try simp only [Act.put, List.getElem_toArray, List.getElem_cons_succ, List.getElem_cons_zero, List.setIfInBounds_toArray, List.set_cons_zero, List.set_cons_succ])
            refine wpAnyH_take (i := 9) (v := undef) rfl (by kernel_rfl) (by kernel_rfl) (by kernel_rfl) (fun _ _ _ h => h) (Or.inr ⟨by kernel_rfl, rfl⟩) hS ?_
            (try simp only [Act.put, List.getElem_toArray, List.getElem_cons_succ, List.getElem_cons_zero, List.setIfInBounds_toArray, List.set_cons_zero, List.set_cons_succ])
            refine wpAnyH_take (i := 10) (v := undef) rfl (by kernel_rfl) (by kernel_rfl) (by kernel_rfl) (fun _ _ _ h => h) (Or.inr ⟨by kernel_rfl, rfl⟩) hS ?_
            (try simp only [Act.put, List.getElem_toArray, List.getElem_cons_succ, List.getElem_cons_zero, List.setIfInBounds_toArray, List.set_cons_zero, List.set_cons_succ])
            refine wpAnyH_take (i := 11) (v := undef) rfl (by kernel_rfl) (by kernel_rfl) (by kernel_rfl) (fun _ _ _ h => h) (Or.inr ⟨by kernel_rfl, rfl⟩) hS ?_
            (try simp only [Act.put, List.getElem_toArray, List.getElem_cons_succ, List.getElem_cons_zero, List.setIfInBounds_toArray, List.set_cons_zero, List.set_cons_succ])
            refine wpAnyH_take (i := 12) (v := undef) rfl (by kernel_rfl) (by kernel_rfl) (by kernel_rfl) (fun _ _ _ h => h) (Or.inr ⟨by kernel_rfl, rfl⟩) hS ?_
            (try simp only [Act.put, List.getElem_toArray, List.getElem_cons_succ, List.getElem_cons_zero, List.setIfInBounds_toArray, List.set_cons_zero, List.set_cons_succ])
            refine wpAnyH_take (i := 13) (v := undef) rfl (by kernel_rfl) (by kernel_rfl) (by kernel_rfl) (fun _ _ _ h => h) (Or.inr ⟨by kernel_rfl, rfl⟩) hS ?_
            (try simp only [Act.put, List.getElem_toArray, List.getElem_cons_succ, List.getElem_cons_zero, List.setIfInBounds_toArray, List.set_cons_zero, List.set_cons_succ])
            refine wpAnyH_take (i := 14) (v := undef) rfl (by kernel_rfl) (by kernel_rfl) (by kernel_rfl) (fun _ _ _ h => h) (Or.inr ⟨by kernel_rfl, rfl⟩) hS ?_
            (try simp only [Act.put, List.getElem_toArray, List.getElem_cons_succ, List.getElem_cons_zero, List.setIfInBounds_toArray, List.set_cons_zero, List.set_cons_succ])
            refine wpAnyH_take (i := 15) (v := undef) rfl (by kernel_rfl) (by kernel_rfl) (by kernel_rfl) (fun _ _ _ h => h) (Or.inr ⟨by kernel_rfl, rfl⟩) hS ?_
            (try simp only [Act.put, List.getElem_toArray, List.getElem_cons_succ, List.getElem_cons_zero, List.setIfInBounds_toArray, List.set_cons_zero, List.set_cons_succ])
            refine wpAnyH_take (i := 16) (v := undef) rfl (by kernel_rfl) (by kernel_rfl) (by kernel_rfl) (fun _ _ _ h => h) (Or.inr ⟨by kernel_rfl, rfl⟩) hS ?_
            (try simp only [Act.put, List.getElem_toArray, List.getElem_cons_succ, List.getElem_cons_zero, List.setIfInBounds_toArray, List.set_cons_zero, List.set_cons_succ])
            refine wpAnyH_take (i := 17) (v := undef) rfl (by kernel_rfl) (by kernel_rfl) (by kernel_rfl) (fun _ _ _ h => h) (Or.inr ⟨by kernel_rfl, rfl⟩) hS ?_
            (try simp only [Act.put, List.getElem_toArray, List.getElem_cons_succ, List.getElem_cons_zero, List.setIfInBounds_toArray, List.set_cons_zero, List.set_cons_succ])
            refine wpAnyH_take (i := 18) (v := undef) rfl (by kernel_rfl) (by kernel_rfl) (by kernel_rfl) (fun _ _ _ h => h) (Or.inr ⟨by kernel_rfl, rfl⟩) hS ?_
            (try simp only [Act.put, List.getElem_toArray, List.getElem_cons_succ, List.getElem_cons_zero, List.setIfInBounds_toArray, List.set_cons_zero, List.set_cons_succ])
            refine wpAnyH_take (i := 19) (v := ?_) rfl (by kernel_rfl) (by kernel_rfl) (by kernel_rfl) (fun _ _ _ h => h) (Or.inl ⟨by kernel_rfl, ?_⟩) hS ?_
            rotate_left
            · intro w hSw; (try dsimp only at hSw); go_simp; try (with_reducible rfl)
            (try simp only [Act.put, List.getElem_toArray, List.getElem_cons_succ, List.getElem_cons_zero, List.setIfInBounds_toArray, List.set_cons_zero, List.set_cons_succ])
            refine wpAnyH_take (i := 20) (v := ?_) rfl (by kernel_rfl) (by kernel_rfl) (by kernel_rfl) (fun _ _ _ h => h) (Or.inl ⟨by kernel_rfl, ?_⟩) hS ?_
            rotate_left
            · intro w hSw; (try dsimp only at hSw); go_simp; try (with_reducible rfl)
            (try simp only [Act.put, List.getElem_toArray, List.getElem_cons_succ, List.getElem_cons_zero, List.setIfInBounds_toArray, List.set_cons_zero, List.set_cons_succ])
            refine wpAnyH_done (by kernel_rfl) ?_ _
            clear hS
            go_wp2_with fail
            go_roundw
            case rel => (repeat apply Exists.intro); have hq : k + 1 ≤ m := HKM.out; first | exact ⟨hq, (by first | rfl | rw [e3]), inr_more HBB.out (bs := false) ⟨fun h => Bool.noConfusion h, fun h => Bool.noConfusion (HH.out.1 h).1⟩, (by first | exact HBz.out | exact below_drewN HBz.out _ | exact below_drewN (below_drewN HBz.out _) _)⟩ | exact ⟨⟨hq, (by first | rfl | rw [e3]), inr_more HBB.out (bs := false) ⟨fun h => Bool.noConfusion h, fun h => Bool.noConfusion (HH.out.1 h).1⟩, (by first | exact HBz.out | exact below_drewN HBz.out _ | exact below_drewN (below_drewN HBz.out _) _)⟩, rfl⟩
            case measure => exact less_one (by first | rfl | rw [e3]) HKM.out
          | true =>
            go_upto_region 23 with fail
            refine wp_region_held_drew (S := fun Z => Z.cell? ⟨ao, 0, none⟩ = some (.slice (some ⟨sg, 0, none⟩) m vc) ∧ Z.cell? ⟨sg, k * 3, none⟩ = some (.int .u64 (f0 : Nat)) ∧ Z.cell? ⟨sg, k * 3 + 1, none⟩ = some (.int .u64 (f1 : Nat)) ∧ Z.cell? ⟨sg, k * 3 + 2, none⟩ = some (.bool true)) (by kernel_rfl) ⟨a0, d0, d1, d2⟩ ?_
            intro hS
            refine wpAnyH_take (i := 0) (v := ?_) rfl (by kernel_rfl) (by kernel_rfl) (by kernel_rfl) (fun _ _ _ h => h) (Or.inl ⟨by kernel_rfl, ?_⟩) hS ?_
            rotate_left
            · intro w hSw; (try dsimp only at hSw); go_simp; try (with_reducible rfl)
            (try simp only [Act.put, List.getElem_toArray, List.getElem_cons_succ, List.getElem_cons_zero, List.setIfInBounds_toArray, List.set_cons_zero, List.set_cons_succ])
            refine wpAnyH_take (i := 1) (v := ?_) rfl (by kernel_rfl) (by kernel_rfl) (by kernel_rfl) (fun _ _ _ h => h) (Or.inl ⟨by kernel_rfl, ?_⟩) hS ?_
            rotate_left
            · intro w hSw; (try dsimp only at hSw); go_simp; try (with_reducible rfl)
            (try simp only [Act.put, List.getElem_toArray, List.getElem_cons_succ, List.getElem_cons_zero, List.setIfInBounds_toArray, List.set_cons_zero, List.set_cons_succ])
            refine wpAnyH_take (i := 2) (v := ?_) rfl (by kernel_rfl) (by kernel_rfl) (by kernel_rfl) (fun _ _ _ h => h) (Or.inl ⟨by kernel_rfl, ?_⟩) hS ?_
            rotate_left
            · intro w hSw; (try dsimp only at hSw); go_simp; try (with_reducible rfl)
            (try simp only [Act.put, List.getElem_toArray, List.getElem_cons_succ, List.getElem_cons_zero, List.setIfInBounds_toArray, List.set_cons_zero, List.set_cons_succ])
            refine wpAnyH_take (i := 3) (v := ?_) rfl (by kernel_rfl) (by kernel_rfl) (by kernel_rfl) (fun _ _ _ h => h) (Or.inl ⟨by kernel_rfl, ?_⟩) hS ?_
            rotate_left
            · intro w hSw; (try dsimp only at hSw); go_simp; try (with_reducible rfl)
            (try simp only [Act.put, List.getElem_toArray, List.getElem_cons_succ, List.getElem_cons_zero, List.setIfInBounds_toArray, List.set_cons_zero, List.set_cons_succ])
            refine wpAnyH_take (i := 4) (v := ?_) rfl (by kernel_rfl) (by kernel_rfl) (by kernel_rfl) (fun _ _ _ h => h) (Or.inl ⟨by kernel_rfl, ?_⟩) hS ?_
            rotate_left
            · intro w hSw; (try dsimp only at hSw); go_simp; try (with_reducible rfl)
            (try simp only [Act.put, List.getElem_toArray, List.getElem_cons_succ, List.getElem_cons_zero, List.setIfInBounds_toArray, List.set_cons_zero, List.set_cons_succ])
            refine wpAnyH_take (i := 5) (v := ?_) rfl (by kernel_rfl) (by kernel_rfl) (by kernel_rfl) (fun _ _ _ h => h) (Or.inl ⟨by kernel_rfl, ?_⟩) hS ?_
            rotate_left
            · intro w hSw; (try dsimp only at hSw); go_simp; try (with_reducible rfl)
            (try simp only [Act.put, List.getElem_toArray, List.getElem_cons_succ, List.getElem_cons_zero, List.setIfInBounds_toArray, List.set_cons_zero, List.set_cons_succ])
            refine wpAnyH_take (i := 6) (v := ?_) rfl (by kernel_rfl) (by kernel_rfl) (by kernel_rfl) (fun _ _ _ h => h) (Or.inl ⟨by kernel_rfl, ?_⟩) hS ?_
            rotate_left
            · intro w hSw; (try dsimp only at hSw); go_simp; try (with_reducible rfl)
            (try simp only [Act.put, List.getElem_toArray, List.getElem_cons_succ, List.getElem_cons_zero, List.setIfInBounds_toArray, List.set_cons_zero, List.set_cons_succ])
            refine wpAnyH_take (i := 7) (v := ?_) rfl (by kernel_rfl) (by kernel_rfl) (by kernel_rfl) (fun _ _ _ h => h) (Or.inl ⟨by kernel_rfl, ?_⟩) hS ?_
            rotate_left
            · intro w hSw; (try dsimp only at hSw); go_simp; try (with_reducible rfl)
            (try simp only [Act.put, List.getElem_toArray, List.getElem_cons_succ, List.getElem_cons_zero, List.setIfInBounds_toArray, List.set_cons_zero, List.set_cons_succ])
            refine wpAnyH_take (i := 8) (v := ?_) rfl (by kernel_rfl) (by kernel_rfl) (by kernel_rfl) (fun _ _ _ h => h) (Or.inl ⟨by kernel_rfl, ?_⟩) hS ?_
            rotate_left
            · intro w hSw; (try dsimp only at hSw); go_simp; try (with_reducible rfl)
            (try simp only [Act.put, List.getElem_toArray, List.getElem_cons_succ, List.getElem_cons_zero, List.setIfInBounds_toArray, List.set_cons_zero, List.set_cons_succ])
            refine wpAnyH_take (i := 9) (v := ?_) rfl (by kernel_rfl) (by kernel_rfl) (by kernel_rfl) (fun _ _ _ h => h) (Or.inl ⟨by kernel_rfl, ?_⟩) hS ?_
            rotate_left
            · intro w hSw; (try dsimp only at hSw); go_simp; try (with_reducible rfl)
            (try simp only [Act.put, List.getElem_toArray, List.getElem_cons_succ, List.getElem_cons_zero, List.setIfInBounds_toArray, List.set_cons_zero, List.set_cons_succ])
            refine wpAnyH_take (i := 10) (v := ?_) rfl (by kernel_rfl) (by kernel_rfl) (by kernel_rfl) (fun _ _ _ h => h) (Or.inl ⟨by kernel_rfl, ?_⟩) hS ?_
            rotate_left
            · intro w hSw; (try dsimp only at hSw); go_simp; try (with_reducible rfl)
            (try simp only [Act.put, List.getElem_toArray, List.getElem_cons_succ, List.getElem_cons_zero, List.setIfInBounds_toArray, List.set_cons_zero, List.set_cons_succ])
            refine wpAnyH_take (i := 11) (v := ?_) rfl (by kernel_rfl) (by kernel_rfl) (by kernel_rfl) (fun _ _ _ h => h) (Or.inl ⟨by kernel_rfl, ?_⟩) hS ?_
            rotate_left
            · intro w hSw; (try dsimp only at hSw); go_simp; try (with_reducible rfl)
            (try simp only [Act.put, List.getElem_toArray, List.getElem_cons_succ, List.getElem_cons_zero, List.setIfInBounds_toArray, List.set_cons_zero, List.set_cons_succ])
            refine wpAnyH_take (i := 12) (v := ?_) rfl (by kernel_rfl) (by kernel_rfl) (by kernel_rfl) (fun _ _ _ h => h) (Or.inl ⟨by kernel_rfl, ?_⟩) hS ?_
            rotate_left
            · intro w hSw; (try dsimp only at hSw); go_simp; try (with_reducible rfl)
            (try simp only [Act.put, List.getElem_toArray, List.getElem_cons_succ, List.getElem_cons_zero, List.setIfInBounds_toArray, List.set_cons_zero, List.set_cons_succ])
            refine wpAnyH_take (i := 13) (v := ?_) rfl (by kernel_rfl) (by kernel_rfl) (by kernel_rfl) (fun _ _ _ h => h) (Or.inl ⟨by kernel_rfl, ?_⟩) hS ?_
            rotate_left
            · intro w hSw; (try dsimp only at hSw); go_simp; try (with_reducible rfl)
            (try simp only [Act.put, List.getElem_toArray, List.getElem_cons_succ, List.getElem_cons_zero, List.setIfInBounds_toArray, List.set_cons_zero, List.set_cons_succ])
            refine wpAnyH_take (i := 14) (v := ?_) rfl (by kernel_rfl) (by kernel_rfl) (by kernel_rfl) (fun _ _ _ h => h) (Or.inl ⟨by kernel_rfl, ?_⟩) hS ?_
            rotate_left
            · intro w hSw; (try dsimp only at hSw); go_simp; try (with_reducible rfl)
            (try simp only [Act.put, List.getElem_toArray, List.getElem_cons_succ, List.getElem_cons_zero, List.setIfInBounds_toArray, List.set_cons_zero, List.set_cons_succ])
            refine wpAnyH_take (i := 15) (v := ?_) rfl (by kernel_rfl) (by kernel_rfl) (by kernel_rfl) (fun _ _ _ h => h) (Or.inl ⟨by kernel_rfl, ?_⟩) hS ?_
            rotate_left
            · intro w hSw; (try dsimp only at hSw); go_simp; try (with_reducible rfl)
            (try simp only [Act.put, List.getElem_toArray, List.getElem_cons_succ, List.getElem_cons_zero, List.setIfInBounds_toArray, List.set_cons_zero, List.set_cons_succ])
            refine wpAnyH_take (i := 16) (v := ?_) rfl (by kernel_rfl) (by kernel_rfl) (by kernel_rfl) (fun _ _ _ h => h) (Or.inl ⟨by kernel_rfl, ?_⟩) hS ?_
            rotate_left
            · intro w hSw; (try dsimp only at hSw); go_simp; try (with_reducible rfl)
            (try simp only [Act.put, List.getElem_toArray, List.getElem_cons_succ, List.getElem_cons_zero, List.setIfInBounds_toArray, List.set_cons_zero, List.set_cons_succ])
            refine wpAnyH_take (i := 17) (v := ?_) rfl (by kernel_rfl) (by kernel_rfl) (by kernel_rfl) (fun _ _ _ h => h) (Or.inl ⟨by kernel_rfl, ?_⟩) hS ?_
            rotate_left
            · intro w hSw; (try dsimp only at hSw); go_simp; try (with_reducible rfl)
            (try simp only [Act.put, List.getElem_toArray, List.getElem_cons_succ, List.getElem_cons_zero, List.setIfInBounds_toArray, List.set_cons_zero, List.set_cons_succ])
            refine wpAnyH_take (i := 18) (v := ?_) rfl (by kernel_rfl) (by kernel_rfl) (by kernel_rfl) (fun _ _ _ h => h) (Or.inl ⟨by kernel_rfl, ?_⟩) hS ?_
            rotate_left
            · intro w hSw; (try dsimp only at hSw); go_simp; try (with_reducible rfl)
            (try simp only [Act.put, List.getElem_toArray, List.getElem_cons_succ, List.getElem_cons_zero, List.setIfInBounds_toArray, List.set_cons_zero, List.set_cons_succ])
            refine wpAnyH_take (i := 19) (v := ?_) rfl (by kernel_rfl) (by kernel_rfl) (by kernel_rfl) (fun _ _ _ h => h) (Or.inl ⟨by kernel_rfl, ?_⟩) hS ?_
            rotate_left
            · intro w hSw; (try dsimp only at hSw); go_simp; try (with_reducible rfl)
            (try simp only [Act.put, List.getElem_toArray, List.getElem_cons_succ, List.getElem_cons_zero, List.setIfInBounds_toArray, List.set_cons_zero, List.set_cons_succ])
            refine wpAnyH_take (i := 20) (v := ?_) rfl (by kernel_rfl) (by kernel_rfl) (by kernel_rfl) (fun _ _ _ h => h) (Or.inl ⟨by kernel_rfl, ?_⟩) hS ?_
            rotate_left
            · intro w hSw; (try dsimp only at hSw); go_simp; try (with_reducible rfl)
            (try simp only [Act.put, List.getElem_toArray, List.getElem_cons_succ, List.getElem_cons_zero, List.setIfInBounds_toArray, List.set_cons_zero, List.set_cons_succ])
            refine wpAnyH_done (by kernel_rfl) ?_ _
            clear hS
            go_wp2_with fail
            go_roundw
            case rel => (repeat apply Exists.intro); have hq : k + 1 ≤ m := HKM.out; first | exact ⟨hq, (by first | rfl | rw [e3]), inr_more HBB.out (bs := bs) ⟨fun h => HH.out.2 ⟨rfl, h⟩, fun h => (HH.out.1 h).2⟩, (by first | exact HBz.out | exact below_drewN HBz.out _ | exact below_drewN (below_drewN HBz.out _) _)⟩ | exact ⟨⟨hq, (by first | rfl | rw [e3]), inr_more HBB.out (bs := bs) ⟨fun h => HH.out.2 ⟨rfl, h⟩, fun h => (HH.out.1 h).2⟩, (by first | exact HBz.out | exact below_drewN HBz.out _ | exact below_drewN (below_drewN HBz.out _) _)⟩, rfl⟩
            case measure => exact less_one (by first | rfl | rw [e3]) HKM.out
end Go.Proofs.Ytmjdnocilbnoaaa
