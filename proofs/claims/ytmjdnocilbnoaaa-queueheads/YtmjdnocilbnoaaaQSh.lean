/- QueueHeads. -/
import Derived.Test.YtmjdnocilbnoaaaYf
import Derived.Test.YtmjdnocilbnoaaaYg
import Derived.Test.YtmjdnocilbnoaaaYb
import Derived.Test.YtmjdnocilbnoaaaYe
namespace Go.Proofs.Ytmjdnocilbnoaaa
open Go.RowKit Go.Maps
set_option linter.unusedVariables false
set_option linter.unusedSimpArgs false
set_option maxRecDepth 100000
theorem both_row {F : Nat → Prop} {w : World} {rb N n : Nat} {a : Option Addr} {c : Nat} {M : Nat → Nat} (h : Both F w rb 8192 (.slice a n c) N M) : ∀ g, (Value.slice a n c).ownBlock = some g → 0 < n → ¬ F g ∧ g < w.heap.size := by
  intro g hg h0
  obtain ⟨nb, bs, _, ⟨a', c', hsl⟩, href, _, _⟩ := h.2
  simp only [Value.slice.injEq] at hsl
  obtain ⟨rfl, rfl, rfl⟩ := hsl
  refine ⟨ref_apart href h0 g hg, ?_⟩
  rcases href with h | ⟨g', cc, he, _, hc⟩
  · omega
  · rw [he] at hg
    simp [Value.ownBlock] at hg
    subst hg
    have h1 := (hc 0 h0).1
    by_cases hl : g' < w.heap.size
    · exact hl
    · exfalso
      have hn : w.heap[g']? = none := Array.getElem?_eq_none (by omega)
      simp [World.cell?, hn] at h1
theorem used_back {us ux k : Nat} (hu : us ≤ 65535) (h : ux = (us + k) % 65536) (hk : k ≤ 256) : IntKind.u16.wrap ((ux : Int) - (us : Int)) = (k : Int) := by
  simp only [IntKind.wrap, IntKind.signed, IntKind.bits]
  simp
  omega
theorem less_id {k n : Nat} (h : k ≤ n) (hn : n ≤ 256) : wrap64 ((k : Int) - (n : Int)) = (k : Int) - (n : Int) := by unfold wrap64; omega
theorem less_max {k n : Nat} (h : k ≤ n) : (if (k : Int) - (n : Int) < 0 then (0 : Int) else (k : Int) - (n : Int)) = 0 := by split <;> omega
theorem less_max2 {k n : Nat} (h : k ≤ n) : (if (0 : Int) < (k : Int) - (n : Int) then (k : Int) - (n : Int) else 0) = 0 := by split <;> omega
theorem max_zero {k n : Nat} (h : k ≤ n) : max (0 : Int) ((k : Int) - (n : Int)) = 0 := by omega
theorem up_u64 (u d : Nat) {n : Nat} (h : u + 6 + 8 * n ≤ 2147491840) (hd : d ≤ 6 := by decide) : IntKind.u64.wrap ((u : Int) + (d : Int)) = ((u + d : Nat) : Int) := by
  simp only [IntKind.wrap, IntKind.signed, IntKind.bits]
  simp
  omega
theorem u2_small {U u2 n : Nat} (h : U + 2 = u2) (hu : U + 6 + 8 * n ≤ 2147491840) : u2 < 18446744073709551616 := by omega
theorem u2_in {U u2 n : Nat} (h : U + 2 = u2) (h1 : 2147483648 ≤ U) (hu : U + 6 + 8 * n ≤ 2147491840) : inB u2 2 2147483648 8192 = true := by
  simp [inB]
  omega
theorem u64_id16 {m : Nat} (h : m ≤ 65535) : IntKind.u64.wrap (m : Int) = (m : Int) := by
  simp only [IntKind.wrap, IntKind.signed, IntKind.bits]
  simp
  omega
theorem pos_ne {n : Nat} (h : 1 ≤ n) : ¬ n = 0 := by omega
theorem entry_facts {n D A U us i : Nat} (hg : Gd n D A U) (hu : us ≤ 65535) (hi : i ≤ 256) : ∃ u4 si m1 m2 m8 x : Nat, IntKind.u64.wrap ((U : Int) + 4) = (u4 : Int) ∧ wrap64 ((us : Int) + (i : Int)) = (si : Int) ∧ IntKind.i64.wrap ((us : Int) + (i : Int)) = (si : Int) ∧ (si : Int).tmod 65536 = (m1 : Int) ∧ (si : Int) % 65536 = (m1 : Int) ∧ (m1 : Int).tmod (n : Int) = (m2 : Int) ∧ (m1 : Int) % (n : Int) = (m2 : Int) ∧ IntKind.u64.wrap (m2 : Int) = (m2 : Int) ∧ IntKind.u64.wrap (8 * (m2 : Int)) = (m8 : Int) ∧ IntKind.u64.wrap ((u4 : Int) + (m8 : Int)) = (x : Int) ∧ U + 4 + 8 * slotN n us i = x ∧ inB x 4 2147483648 8192 = true ∧ x < 18446744073709551616 := by
  have h1 := hg.n1; have h2 := hg.n2; have h3 := hg.u1; have h4 := hg.u2
  have hm : slotN n us i < n := slot_lt h1
  have hd : slotN n us i = (us + i) % 65536 % n := rfl
  obtain ⟨m1, hm1⟩ : ∃ m1, (us + i) % 65536 = m1 := ⟨_, rfl⟩
  rw [hm1] at hd
  obtain ⟨m2, hm2⟩ : ∃ m2, slotN n us i = m2 := ⟨_, rfl⟩
  rw [hm2] at hm hd
  refine ⟨U + 4, us + i, m1, m2, 8 * m2, U + 4 + 8 * m2, up_u64 U 4 h4, ?_, wrapRl (us + i) (by omega), ?_, ?_, ?_, ?_, ?_, ?_, ?_, by rw [hm2], ?_, by omega⟩
  · unfold wrap64; omega
  · rw [Int.tmod_eq_emod_of_nonneg (by omega)]; omega
  · omega
  · rw [Int.tmod_eq_emod_of_nonneg (by omega), hd]; rfl
  · rw [hd]; rfl
  · rw [wrap_u64]; omega
  · rw [wrap_u64]; omega
  · rw [wrap_u64]; omega
  · simp [inB]; omega
theorem head_at {B : Nat} {w : World} {va : Option Addr} {k vc i hj : Nat} {hs : List Nat} (h : w.ownsRow B 38 1 (.slice va k vc) k (headsRow hs)) (hk : hs.length = k) (hi : i < k) (hg : hs[i]? = some hj) : ∃ g : Nat, va = some ⟨g, 0, none⟩ ∧ w.cell? ⟨g, i, none⟩ = some (.int .u16 (hj : Int)) := by
  have h' := h
  rcases h'.2 with ⟨h0, h1⟩ | ⟨g, cap, cur, he, _⟩
  · omega
  · simp only [Value.slice.injEq] at he
    obtain ⟨rfl, _, rfl⟩ := he
    have hc := World.ownsRow.cells h (g := g) rfl
    refine ⟨g, rfl, ?_⟩
    have := hc i (.int .u16 (hj : Int)) (by unfold headsRow; rw [List.getElem?_map, hg]; rfl)
    rw [addr_add] at this
    simpa using this
def Lh (W V : World) (ho qb : Nat) (va : Option Addr) (k vc : Nat) (hs : List Nat) (n D A U fe us fx ux : Nat) (ev al : Bool) (rb κ : Nat) (F : Nat → Prop) (M : Nat → Nat) (B : Nat) : Prop := Below W.heap.size W V ∧ V.heap[qb]? = some (.cells #[.int .i64 (n : Int), .int .u64 (D : Int), .int .u64 (A : Int), .int .u64 (U : Int), .bool true, .int .u16 (fx : Int), .int .u16 (ux : Int), .bool ev, .bool al] 40 (0, 0)) ∧ V.heap[ho]? = some (.cells #[.slice va k vc] 42 (0, 0)) ∧ V.heap[W.heap.size]? = some (.cells #[.int .i64 (n : Int), .int .u64 (D : Int), .int .u64 (A : Int), .int .u64 (U : Int), .bool true, .int .i64 (fe : Int), .int .i64 (us : Int), .bool ev, .bool al] 27 (0, 0)) ∧ V.ownsRow B 38 1 (.slice va k vc) k (headsRow hs) ∧ RamAt V F rb 8192 κ (.pointer none) M
theorem Lh.below {W V V2 : World} {ho qb : Nat} {va : Option Addr} {k vc : Nat} {hs : List Nat} {n D A U fe us fx ux : Nat} {ev al : Bool} {rb κ : Nat} {F : Nat → Prop} {M : Nat → Nat} {B : Nat} (h : Lh W V ho qb va k vc hs n D A U fe us fx ux ev al rb κ F M B) (hb : Below V.heap.size V V2) : Lh W V2 ho qb va k vc hs n D A U fe us fx ux ev al rb κ F M B := ⟨below_to h.1 hb, below_box h.2.1 hb, below_box h.2.2.1 hb, below_box h.2.2.2.1 hb, own_below h.2.2.2.2.1 hb, h.2.2.2.2.2.below hb⟩

set_option maxHeartbeats 8000000 in
theorem heads_core (W : World) (v : Value) (len : Nat) (ps : Nat → PutD) (hws : PutsIn W v len ps) (s : Int) (D A U : Nat) (rd : Bool) (fi ui : Int) (ev al : Bool) (hD : D < 18446744073709551616) (hA : A < 18446744073709551616) (hU : U < 18446744073709551616) (r0 : Int) (_hr : (Lit.int .i64 r0).wf = true) : Calls Try.prog 3 #[v, .agg #[.int .i64 s, .int .u64 (D : Int), .int .u64 (A : Int), .int .u64 (U : Int), .bool rd, .int .i64 fi, .int .i64 ui, .bool ev, .bool al], .int .i64 r0] W fun e w' => e = .returned (.bool true) ∧ Below W.heap.size W w' := by
  have X0 : Hid (Below W.heap.size W ((W.alloc (.cells #[.int .i64 s, .int .u64 (D : Int), .int .u64 (A : Int), .int .u64 (U : Int), .bool rd, .int .i64 fi, .int .i64 ui, .bool ev, .bool al] 27)).alloc (.cells #[.int .i64 r0] 3)) ∧ ((W.alloc (.cells #[.int .i64 s, .int .u64 (D : Int), .int .u64 (A : Int), .int .u64 (U : Int), .bool rd, .int .i64 fi, .int .i64 ui, .bool ev, .bool al] 27)).alloc (.cells #[.int .i64 r0] 3)).heap[W.heap.size]? = some (.cells #[.int .i64 s, .int .u64 (D : Int), .int .u64 (A : Int), .int .u64 (U : Int), .bool rd, .int .i64 fi, .int .i64 ui, .bool ev, .bool al] 27 (0, 0)) ∧ ((W.alloc (.cells #[.int .i64 s, .int .u64 (D : Int), .int .u64 (A : Int), .int .u64 (U : Int), .bool rd, .int .i64 fi, .int .i64 ui, .bool ev, .bool al] 27)).alloc (.cells #[.int .i64 r0] 3)).heap[W.heap.size + 1]? = some (.cells #[.int .i64 r0] 3 (0, 0))) := ⟨((Below.refl _ _).alloc (Nat.le_refl _) _).alloc (by simp) _, (two_in W _ _).1, (two_in W _ _).2⟩
  have HW : Hid (PutsIn W v len ps) := hws
  have HU : Hid (D < 18446744073709551616 ∧ A < 18446744073709551616 ∧ U < 18446744073709551616) := ⟨hD, hA, hU⟩
  clear hws hD hA hU _hr
  go_enter Try.func3, Try.ntmps3
  go_upto_region 1 with fail
  generalize (W.alloc (.cells #[.int .i64 s, .int .u64 (D : Int), .int .u64 (A : Int), .int .u64 (U : Int), .bool rd, .int .i64 fi, .int .i64 ui, .bool ev, .bool al] 27)).alloc (.cells #[.int .i64 r0] 3) = v0 at *
  go_upto_region 3 with (go_at_call 5; refine (awake_any _).mono ?_; rintro e w1 ⟨rfl, hb1⟩; have X1 : Hid (Below W.heap.size W w1 ∧ w1.heap[W.heap.size]? = some (.cells #[.int .i64 s, .int .u64 (D : Int), .int .u64 (A : Int), .int .u64 (U : Int), .bool rd, .int .i64 fi, .int .i64 ui, .bool ev, .bool al] 27 (0, 0)) ∧ w1.heap[W.heap.size + 1]? = some (.cells #[.int .i64 r0] 3 (0, 0))) := ⟨below_to X0.out.1 hb1, below_box X0.out.2.1 hb1, below_box X0.out.2.2 hb1⟩; clear hb1 X0)
  go_upto_region 4 with (go_at_call 6; refine (memory_any _ len ps _ (HW.out.up X1.out.1)).mono ?_; rintro e w2 ⟨pv, a, mn, c, rfl, hb2, hor⟩; have X2 : Hid (Below W.heap.size W w2 ∧ w2.heap[W.heap.size]? = some (.cells #[.int .i64 s, .int .u64 (D : Int), .int .u64 (A : Int), .int .u64 (U : Int), .bool rd, .int .i64 fi, .int .i64 ui, .bool ev, .bool al] 27 (0, 0)) ∧ w2.heap[W.heap.size + 1]? = some (.cells #[.int .i64 r0] 3 (0, 0))) := ⟨below_to X1.out.1 hb2, below_box X1.out.2.1 hb2, below_box X1.out.2.2 hb2⟩; rcases hor with ⟨rfl, _⟩ | ⟨rb, F, M, rfl, hB, hF⟩)
  · have X3 : Hid (Below W.heap.size W (w2.alloc (.cells #[.int .u64 8192, .slice a mn c] 32))) := below_to X2.out.1 (one_box _ _)
    clear hb2 X2 X1
    generalize w2.alloc (.cells #[.int .u64 8192, .slice a mn c] 32) = w3 at *
    generalize w2.heap.size = p8 at *
    go_wp2_with fail
    go_ret
    exact ⟨rfl, X3.out⟩
  have hb3 : Below w2.heap.size w2 (w2.alloc (.cells #[.int .u64 8192, .slice a mn c] 32)) := one_box _ _
  have X3 : Hid ((Below W.heap.size W (w2.alloc (.cells #[.int .u64 8192, .slice a mn c] 32)) ∧ (w2.alloc (.cells #[.int .u64 8192, .slice a mn c] 32)).heap[W.heap.size]? = some (.cells #[.int .i64 s, .int .u64 (D : Int), .int .u64 (A : Int), .int .u64 (U : Int), .bool rd, .int .i64 fi, .int .i64 ui, .bool ev, .bool al] 27 (0, 0)) ∧ (w2.alloc (.cells #[.int .u64 8192, .slice a mn c] 32)).heap[W.heap.size + 1]? = some (.cells #[.int .i64 r0] 3 (0, 0))) ∧ (w2.alloc (.cells #[.int .u64 8192, .slice a mn c] 32)).heap[w2.heap.size]? = some (.cells #[.int .u64 8192, .slice a mn c] 32 (0, 0))) := ⟨⟨below_to X2.out.1 hb3, below_box X2.out.2.1 hb3, below_box X2.out.2.2 hb3⟩, heap_alloc_new _ _⟩
  have HB : Hid (Both F (w2.alloc (.cells #[.int .u64 8192, .slice a mn c] 32)) rb 8192 (.slice a mn c) 12000 M ∧ (∀ k, F k → W.heap.size + 2 ≤ k) ∧ (∀ k, F k → k < w2.heap.size) ∧ (∀ g, (Value.slice a mn c).ownBlock = some g → 0 < mn → ¬ F g ∧ g < w2.heap.size)) := ⟨hB.below hb3, fun k hk => Nat.le_trans (Array.getElem?_eq_some_iff.1 X1.out.2.2).1 (hF k hk), fun k hf => hB.1.lt _ hf, both_row hB⟩
  have HP0 : Hid (W.heap.size + 2 ≤ w2.heap.size) := (Array.getElem?_eq_some_iff.1 X2.out.2.2).1
  clear hB hF hb2 hb3 X1 X2
  generalize w2.alloc (.cells #[.int .u64 8192, .slice a mn c] 32) = w3 at *
  generalize w2.heap.size = p8 at *
  obtain ⟨c0, c1, c2, c3, c4, c5, c6, c7, c8⟩ := box9_facts X3.out.1.2.1
  obtain ⟨r0', r1, _, _⟩ := box_facts X3.out.2
  by_cases hin : inQ fi ui
  case neg =>
    go_wp2_with (go_at_call 7; refine (right_no hin).mono ?_; rintro e w4 ⟨rfl, hb4⟩; have X4 : Hid (Below W.heap.size W w4) := below_to X3.out.1.1 hb4; clear hb4)
    go_ret
    exact ⟨rfl, X4.out⟩
  obtain ⟨fe, us, rfl, rfl, hfe, hus⟩ := inQ_nat hin
  have HFU : Hid (fe ≤ 65535 ∧ us ≤ 65535) := ⟨hfe, hus⟩
  have RY : Hid (∀ V, Calls Try.prog 7 #[.agg #[.int .i64 s, .int .u64 (D : Int), .int .u64 (A : Int), .int .u64 (U : Int), .bool rd, .int .i64 (fe : Int), .int .i64 (us : Int), .bool ev, .bool al]] V fun e w' => e = .returned (.bool true) ∧ Below V.heap.size V w') := fun V => right_yes hfe hus
  have XC : Hid ((Below W.heap.size W w3 ∧ w3.heap[W.heap.size]? = some (.cells #[.int .i64 s, .int .u64 (D : Int), .int .u64 (A : Int), .int .u64 (U : Int), .bool rd, .int .i64 (fe : Int), .int .i64 (us : Int), .bool ev, .bool al] 27 (0, 0)) ∧ w3.heap[W.heap.size + 1]? = some (.cells #[.int .i64 r0] 3 (0, 0))) ∧ w3.heap[p8]? = some (.cells #[.int .u64 8192, .slice a mn c] 32 (0, 0))) := X3.out
  clear hin hfe hus X3
  by_cases hrg : 0 ≤ r0 ∧ r0 ≤ 40
  case neg =>
    by_cases g0 : r0 < 0
    case pos =>
      clear hrg
      go_wp2_with (first | (go_at_call 7; refine (RY.out _).mono ?_; rintro e w4 ⟨rfl, hb4⟩; have X4 : Hid ((Below W.heap.size W w4 ∧ w4.heap[W.heap.size]? = some (.cells #[.int .i64 s, .int .u64 (D : Int), .int .u64 (A : Int), .int .u64 (U : Int), .bool rd, .int .i64 (fe : Int), .int .i64 (us : Int), .bool ev, .bool al] 27 (0, 0)) ∧ w4.heap[W.heap.size + 1]? = some (.cells #[.int .i64 r0] 3 (0, 0))) ∧ w4.heap[p8]? = some (.cells #[.int .u64 8192, .slice a mn c] 32 (0, 0))) := ⟨⟨below_to XC.out.1.1 hb4, below_box XC.out.1.2.1 hb4, below_box XC.out.1.2.2 hb4⟩, below_box XC.out.2 hb4⟩; have HB4 : Hid (Both F w4 rb 8192 (.slice a mn c) 12000 M) := HB.out.1.below hb4; clear hb4; clear c0 c1 c2 c3 c4 c5 c6 c7 c8 r0' r1; obtain ⟨c0, c1, c2, c3, c4, c5, c6, c7, c8⟩ := box9_facts X4.out.1.2.1; obtain ⟨r0', r1, _, _⟩ := box_facts X4.out.2; obtain ⟨k0, k1⟩ := box1_facts X4.out.1.2.2))
      go_ret
      exact ⟨rfl, X4.out.1.1⟩
    have g1 : 40 < r0 := by omega
    clear hrg
    go_wp2_with (first | (go_at_call 7; refine (RY.out _).mono ?_; rintro e w4 ⟨rfl, hb4⟩; have X4 : Hid ((Below W.heap.size W w4 ∧ w4.heap[W.heap.size]? = some (.cells #[.int .i64 s, .int .u64 (D : Int), .int .u64 (A : Int), .int .u64 (U : Int), .bool rd, .int .i64 (fe : Int), .int .i64 (us : Int), .bool ev, .bool al] 27 (0, 0)) ∧ w4.heap[W.heap.size + 1]? = some (.cells #[.int .i64 r0] 3 (0, 0))) ∧ w4.heap[p8]? = some (.cells #[.int .u64 8192, .slice a mn c] 32 (0, 0))) := ⟨⟨below_to XC.out.1.1 hb4, below_box XC.out.1.2.1 hb4, below_box XC.out.1.2.2 hb4⟩, below_box XC.out.2 hb4⟩; have HB4 : Hid (Both F w4 rb 8192 (.slice a mn c) 12000 M) := HB.out.1.below hb4; clear hb4; clear c0 c1 c2 c3 c4 c5 c6 c7 c8 r0' r1; obtain ⟨c0, c1, c2, c3, c4, c5, c6, c7, c8⟩ := box9_facts X4.out.1.2.1; obtain ⟨r0', r1, _, _⟩ := box_facts X4.out.2; obtain ⟨k0, k1⟩ := box1_facts X4.out.1.2.2))
    go_ret
    exact ⟨rfl, X4.out.1.1⟩
  obtain ⟨t, rfl⟩ : ∃ t : Nat, r0 = (t : Int) := ⟨r0.toNat, by omega⟩
  have g0 : ¬ (t : Int) < 0 := by omega
  have g1 : ¬ 40 < (t : Int) := by omega
  have HT : Hid (t ≤ 40) := by show t ≤ 40; omega
  clear hrg
  obtain ⟨ce, hce⟩ : ∃ ce, chkN s D A U 8192 = ce := ⟨_, rfl⟩
  have HCE : Hid (chkN s D A U 8192 = ce) := hce
  by_cases hc : ce = 0
  case neg =>
    have q1 : (ce != 0) = true := by simp [hc]
    clear hc hce
    go_wp2_with (first | (go_at_call 7; refine (RY.out _).mono ?_; rintro e w4 ⟨rfl, hb4⟩; have X4 : Hid ((Below W.heap.size W w4 ∧ w4.heap[W.heap.size]? = some (.cells #[.int .i64 s, .int .u64 (D : Int), .int .u64 (A : Int), .int .u64 (U : Int), .bool rd, .int .i64 (fe : Int), .int .i64 (us : Int), .bool ev, .bool al] 27 (0, 0)) ∧ w4.heap[W.heap.size + 1]? = some (.cells #[.int .i64 (t : Int)] 3 (0, 0))) ∧ w4.heap[p8]? = some (.cells #[.int .u64 8192, .slice a mn c] 32 (0, 0))) := ⟨⟨below_to XC.out.1.1 hb4, below_box XC.out.1.2.1 hb4, below_box XC.out.1.2.2 hb4⟩, below_box XC.out.2 hb4⟩; have HB4 : Hid (Both F w4 rb 8192 (.slice a mn c) 12000 M) := HB.out.1.below hb4; clear hb4; clear c0 c1 c2 c3 c4 c5 c6 c7 c8 r0' r1; obtain ⟨c0, c1, c2, c3, c4, c5, c6, c7, c8⟩ := box9_facts X4.out.1.2.1; obtain ⟨r0', r1, _, _⟩ := box_facts X4.out.2; obtain ⟨k0, k1⟩ := box1_facts X4.out.1.2.2) | (go_at_call 8; refine (rcheck_any HU.out.1 HU.out.2.1 HU.out.2.2 8192 (by omega) a mn c _).mono ?_; rintro e w5 ⟨rfl, hb5⟩; rw [HCE.out]; have X5 : Hid ((Below W.heap.size W w5 ∧ w5.heap[W.heap.size]? = some (.cells #[.int .i64 s, .int .u64 (D : Int), .int .u64 (A : Int), .int .u64 (U : Int), .bool rd, .int .i64 (fe : Int), .int .i64 (us : Int), .bool ev, .bool al] 27 (0, 0)) ∧ w5.heap[W.heap.size + 1]? = some (.cells #[.int .i64 (t : Int)] 3 (0, 0))) ∧ w5.heap[p8]? = some (.cells #[.int .u64 8192, .slice a mn c] 32 (0, 0))) := ⟨⟨below_to X4.out.1.1 hb5, below_box X4.out.1.2.1 hb5, below_box X4.out.1.2.2 hb5⟩, below_box X4.out.2 hb5⟩; have HB5 : Hid (Both F w5 rb 8192 (.slice a mn c) 12000 M) := HB4.out.below hb5; clear hb5 X4 HB4 k0 k1; clear c0 c1 c2 c3 c4 c5 c6 c7 c8 r0' r1; obtain ⟨c0, c1, c2, c3, c4, c5, c6, c7, c8⟩ := box9_facts X5.out.1.2.1; obtain ⟨r0', r1, _, _⟩ := box_facts X5.out.2; obtain ⟨k0, k1⟩ := box1_facts X5.out.1.2.2))
    go_ret
    exact ⟨rfl, X5.out.1.1⟩
  obtain ⟨n, rfl, hg⟩ := gd_of (hce.trans hc) HU.out.1
  have HGD : Hid (Gd n D A U) := hg
  subst hc
  clear hce hg
  cases rd with
  | false =>
    go_wp2_with (first | (go_at_call 7; refine (RY.out _).mono ?_; rintro e w4 ⟨rfl, hb4⟩; have X4 : Hid ((Below W.heap.size W w4 ∧ w4.heap[W.heap.size]? = some (.cells #[.int .i64 (n : Int), .int .u64 (D : Int), .int .u64 (A : Int), .int .u64 (U : Int), .bool false, .int .i64 (fe : Int), .int .i64 (us : Int), .bool ev, .bool al] 27 (0, 0)) ∧ w4.heap[W.heap.size + 1]? = some (.cells #[.int .i64 (t : Int)] 3 (0, 0))) ∧ w4.heap[p8]? = some (.cells #[.int .u64 8192, .slice a mn c] 32 (0, 0))) := ⟨⟨below_to XC.out.1.1 hb4, below_box XC.out.1.2.1 hb4, below_box XC.out.1.2.2 hb4⟩, below_box XC.out.2 hb4⟩; have HB4 : Hid (Both F w4 rb 8192 (.slice a mn c) 12000 M) := HB.out.1.below hb4; clear hb4; clear c0 c1 c2 c3 c4 c5 c6 c7 c8 r0' r1; obtain ⟨c0, c1, c2, c3, c4, c5, c6, c7, c8⟩ := box9_facts X4.out.1.2.1; obtain ⟨r0', r1, _, _⟩ := box_facts X4.out.2; obtain ⟨k0, k1⟩ := box1_facts X4.out.1.2.2) | (go_at_call 8; refine (rcheck_any HU.out.1 HU.out.2.1 HU.out.2.2 8192 (by omega) a mn c _).mono ?_; rintro e w5 ⟨rfl, hb5⟩; rw [HCE.out]; have X5 : Hid ((Below W.heap.size W w5 ∧ w5.heap[W.heap.size]? = some (.cells #[.int .i64 (n : Int), .int .u64 (D : Int), .int .u64 (A : Int), .int .u64 (U : Int), .bool false, .int .i64 (fe : Int), .int .i64 (us : Int), .bool ev, .bool al] 27 (0, 0)) ∧ w5.heap[W.heap.size + 1]? = some (.cells #[.int .i64 (t : Int)] 3 (0, 0))) ∧ w5.heap[p8]? = some (.cells #[.int .u64 8192, .slice a mn c] 32 (0, 0))) := ⟨⟨below_to X4.out.1.1 hb5, below_box X4.out.1.2.1 hb5, below_box X4.out.1.2.2 hb5⟩, below_box X4.out.2 hb5⟩; have HB5 : Hid (Both F w5 rb 8192 (.slice a mn c) 12000 M) := HB4.out.below hb5; clear hb5 X4 HB4 k0 k1; clear c0 c1 c2 c3 c4 c5 c6 c7 c8 r0' r1; obtain ⟨c0, c1, c2, c3, c4, c5, c6, c7, c8⟩ := box9_facts X5.out.1.2.1; obtain ⟨r0', r1, _, _⟩ := box_facts X5.out.2; obtain ⟨k0, k1⟩ := box1_facts X5.out.1.2.2))
    go_ret
    exact ⟨rfl, X5.out.1.1⟩
  | true =>
  go_upto_region 6 with (first | (go_at_call 7; refine (RY.out _).mono ?_; rintro e w4 ⟨rfl, hb4⟩; have X4 : Hid ((Below W.heap.size W w4 ∧ w4.heap[W.heap.size]? = some (.cells #[.int .i64 (n : Int), .int .u64 (D : Int), .int .u64 (A : Int), .int .u64 (U : Int), .bool true, .int .i64 (fe : Int), .int .i64 (us : Int), .bool ev, .bool al] 27 (0, 0)) ∧ w4.heap[W.heap.size + 1]? = some (.cells #[.int .i64 (t : Int)] 3 (0, 0))) ∧ w4.heap[p8]? = some (.cells #[.int .u64 8192, .slice a mn c] 32 (0, 0))) := ⟨⟨below_to XC.out.1.1 hb4, below_box XC.out.1.2.1 hb4, below_box XC.out.1.2.2 hb4⟩, below_box XC.out.2 hb4⟩; have HB4 : Hid (Both F w4 rb 8192 (.slice a mn c) 12000 M) := HB.out.1.below hb4; clear hb4; clear c0 c1 c2 c3 c4 c5 c6 c7 c8 r0' r1; obtain ⟨c0, c1, c2, c3, c4, c5, c6, c7, c8⟩ := box9_facts X4.out.1.2.1; obtain ⟨r0', r1, _, _⟩ := box_facts X4.out.2; obtain ⟨k0, k1⟩ := box1_facts X4.out.1.2.2) | (go_at_call 8; refine (rcheck_any HU.out.1 HU.out.2.1 HU.out.2.2 8192 (by omega) a mn c _).mono ?_; rintro e w5 ⟨rfl, hb5⟩; rw [HCE.out]; have X5 : Hid ((Below W.heap.size W w5 ∧ w5.heap[W.heap.size]? = some (.cells #[.int .i64 (n : Int), .int .u64 (D : Int), .int .u64 (A : Int), .int .u64 (U : Int), .bool true, .int .i64 (fe : Int), .int .i64 (us : Int), .bool ev, .bool al] 27 (0, 0)) ∧ w5.heap[W.heap.size + 1]? = some (.cells #[.int .i64 (t : Int)] 3 (0, 0))) ∧ w5.heap[p8]? = some (.cells #[.int .u64 8192, .slice a mn c] 32 (0, 0))) := ⟨⟨below_to X4.out.1.1 hb5, below_box X4.out.1.2.1 hb5, below_box X4.out.1.2.2 hb5⟩, below_box X4.out.2 hb5⟩; have HB5 : Hid (Both F w5 rb 8192 (.slice a mn c) 12000 M) := HB4.out.below hb5; clear hb5 X4 HB4 k0 k1; clear c0 c1 c2 c3 c4 c5 c6 c7 c8 r0' r1; obtain ⟨c0, c1, c2, c3, c4, c5, c6, c7, c8⟩ := box9_facts X5.out.1.2.1; obtain ⟨r0', r1, _, _⟩ := box_facts X5.out.2; obtain ⟨k0, k1⟩ := box1_facts X5.out.1.2.2) | (go_at_call 9; refine (apart_law HGD.out _).mono ?_; rintro e w5b ⟨ba, rfl, hba, hb5⟩; have X6 : Hid ((Below W.heap.size W w5b ∧ w5b.heap[W.heap.size]? = some (.cells #[.int .i64 (n : Int), .int .u64 (D : Int), .int .u64 (A : Int), .int .u64 (U : Int), .bool true, .int .i64 (fe : Int), .int .i64 (us : Int), .bool ev, .bool al] 27 (0, 0)) ∧ w5b.heap[W.heap.size + 1]? = some (.cells #[.int .i64 (t : Int)] 3 (0, 0))) ∧ w5b.heap[p8]? = some (.cells #[.int .u64 8192, .slice a mn c] 32 (0, 0))) := ⟨⟨below_to X5.out.1.1 hb5, below_box X5.out.1.2.1 hb5, below_box X5.out.1.2.2 hb5⟩, below_box X5.out.2 hb5⟩; have HB6 : Hid (Both F w5b rb 8192 (.slice a mn c) 12000 M ∧ (ba = true → Apt n A U)) := ⟨HB5.out.below hb5, hba⟩; clear hb5 hba X5 HB5 k0 k1; clear c0 c1 c2 c3 c4 c5 c6 c7 c8 r0' r1; obtain ⟨c0, c1, c2, c3, c4, c5, c6, c7, c8⟩ := box9_facts X6.out.1.2.1; obtain ⟨r0', r1, _, _⟩ := box_facts X6.out.2; obtain ⟨k0, k1⟩ := box1_facts X6.out.1.2.2; cases ba))
  · go_ret
    exact ⟨rfl, X6.out.1.1⟩
  have HAP : Hid (Apt n A U) := HB6.out.2 (by first | exact trivial | rfl)
  go_upto_region 7 with (go_at_call 10; refine (lawOf_any HFU.out.1 HFU.out.2).mono ?_; rintro e w6 ⟨rfl, hb6⟩; have X7 : Hid (((Below W.heap.size W w6 ∧ w6.heap[W.heap.size]? = some (.cells #[.int .i64 (n : Int), .int .u64 (D : Int), .int .u64 (A : Int), .int .u64 (U : Int), .bool true, .int .i64 (fe : Int), .int .i64 (us : Int), .bool ev, .bool al] 27 (0, 0)) ∧ w6.heap[W.heap.size + 1]? = some (.cells #[.int .i64 (t : Int)] 3 (0, 0))) ∧ w6.heap[p8]? = some (.cells #[.int .u64 8192, .slice a mn c] 32 (0, 0))) ∧ Both F w6 rb 8192 (.slice a mn c) 12000 M) := ⟨⟨⟨below_to X6.out.1.1 hb6, below_box X6.out.1.2.1 hb6, below_box X6.out.1.2.2 hb6⟩, below_box X6.out.2 hb6⟩, HB6.out.1.below hb6⟩; clear hb6 X6 HB6 k0 k1; clear c0 c1 c2 c3 c4 c5 c6 c7 c8 r0' r1)
  have hb7 : Below w6.heap.size w6 (w6.alloc (.cells #[.int .i64 (n : Int), .int .u64 (D : Int), .int .u64 (A : Int), .int .u64 (U : Int), .bool true, .int .u16 (fe : Int), .int .u16 (us : Int), .bool ev, .bool al] 40)) := one_box _ _
  have X8 : Hid (((Below W.heap.size W (w6.alloc (.cells #[.int .i64 (n : Int), .int .u64 (D : Int), .int .u64 (A : Int), .int .u64 (U : Int), .bool true, .int .u16 (fe : Int), .int .u16 (us : Int), .bool ev, .bool al] 40)) ∧ (w6.alloc (.cells #[.int .i64 (n : Int), .int .u64 (D : Int), .int .u64 (A : Int), .int .u64 (U : Int), .bool true, .int .u16 (fe : Int), .int .u16 (us : Int), .bool ev, .bool al] 40)).heap[W.heap.size]? = some (.cells #[.int .i64 (n : Int), .int .u64 (D : Int), .int .u64 (A : Int), .int .u64 (U : Int), .bool true, .int .i64 (fe : Int), .int .i64 (us : Int), .bool ev, .bool al] 27 (0, 0)) ∧ (w6.alloc (.cells #[.int .i64 (n : Int), .int .u64 (D : Int), .int .u64 (A : Int), .int .u64 (U : Int), .bool true, .int .u16 (fe : Int), .int .u16 (us : Int), .bool ev, .bool al] 40)).heap[W.heap.size + 1]? = some (.cells #[.int .i64 (t : Int)] 3 (0, 0))) ∧ (w6.alloc (.cells #[.int .i64 (n : Int), .int .u64 (D : Int), .int .u64 (A : Int), .int .u64 (U : Int), .bool true, .int .u16 (fe : Int), .int .u16 (us : Int), .bool ev, .bool al] 40)).heap[p8]? = some (.cells #[.int .u64 8192, .slice a mn c] 32 (0, 0))) ∧ Both F (w6.alloc (.cells #[.int .i64 (n : Int), .int .u64 (D : Int), .int .u64 (A : Int), .int .u64 (U : Int), .bool true, .int .u16 (fe : Int), .int .u16 (us : Int), .bool ev, .bool al] 40)) rb 8192 (.slice a mn c) 12000 M ∧ (w6.alloc (.cells #[.int .i64 (n : Int), .int .u64 (D : Int), .int .u64 (A : Int), .int .u64 (U : Int), .bool true, .int .u16 (fe : Int), .int .u16 (us : Int), .bool ev, .bool al] 40)).heap[w6.heap.size]? = some (.cells #[.int .i64 (n : Int), .int .u64 (D : Int), .int .u64 (A : Int), .int .u64 (U : Int), .bool true, .int .u16 (fe : Int), .int .u16 (us : Int), .bool ev, .bool al] 40 (0, 0)) ∧ p8 < w6.heap.size) := ⟨⟨⟨below_to X7.out.1.1.1 hb7, below_box X7.out.1.1.2.1 hb7, below_box X7.out.1.1.2.2 hb7⟩, below_box X7.out.1.2 hb7⟩, X7.out.2.below hb7, heap_alloc_new _ _, (Array.getElem?_eq_some_iff.1 X7.out.1.2).1⟩
  clear hb7 X7
  generalize w6.alloc (.cells #[.int .i64 (n : Int), .int .u64 (D : Int), .int .u64 (A : Int), .int .u64 (U : Int), .bool true, .int .u16 (fe : Int), .int .u16 (us : Int), .bool ev, .bool al] 40) = w7 at *
  generalize w6.heap.size = qb at *
  go_upto_region 8 with fail
  have hb8 : Below w7.heap.size w7 (w7.alloc (.cells #[.slice none 0 0] 42)) := one_box _ _
  have X9 : Hid (((Below W.heap.size W (w7.alloc (.cells #[.slice none 0 0] 42)) ∧ (w7.alloc (.cells #[.slice none 0 0] 42)).heap[W.heap.size]? = some (.cells #[.int .i64 (n : Int), .int .u64 (D : Int), .int .u64 (A : Int), .int .u64 (U : Int), .bool true, .int .i64 (fe : Int), .int .i64 (us : Int), .bool ev, .bool al] 27 (0, 0)) ∧ (w7.alloc (.cells #[.slice none 0 0] 42)).heap[W.heap.size + 1]? = some (.cells #[.int .i64 (t : Int)] 3 (0, 0))) ∧ (w7.alloc (.cells #[.slice none 0 0] 42)).heap[p8]? = some (.cells #[.int .u64 8192, .slice a mn c] 32 (0, 0))) ∧ Both F (w7.alloc (.cells #[.slice none 0 0] 42)) rb 8192 (.slice a mn c) 12000 M ∧ (w7.alloc (.cells #[.slice none 0 0] 42)).heap[qb]? = some (.cells #[.int .i64 (n : Int), .int .u64 (D : Int), .int .u64 (A : Int), .int .u64 (U : Int), .bool true, .int .u16 (fe : Int), .int .u16 (us : Int), .bool ev, .bool al] 40 (0, 0)) ∧ p8 < qb ∧ (w7.alloc (.cells #[.slice none 0 0] 42)).heap[w7.heap.size]? = some (.cells #[.slice none 0 0] 42 (0, 0)) ∧ qb < w7.heap.size) := ⟨⟨⟨below_to X8.out.1.1.1 hb8, below_box X8.out.1.1.2.1 hb8, below_box X8.out.1.1.2.2 hb8⟩, below_box X8.out.1.2 hb8⟩, X8.out.2.1.below hb8, below_box X8.out.2.2.1 hb8, X8.out.2.2.2, heap_alloc_new _ _, (Array.getElem?_eq_some_iff.1 X8.out.2.2.1).1⟩
  clear hb8 X8
  generalize w7.alloc (.cells #[.slice none 0 0] 42) = w9 at *
  generalize w7.heap.size = ho at *
  obtain ⟨x1, x2, x3, x4, x5, x6⟩ := X9.out
  obtain ⟨nb, bs, hnb, ⟨a', c', hsl⟩, href, hgt, hrng⟩ := x2.2
  simp only [Value.slice.injEq] at hsl
  obtain ⟨rfl, rfl, rfl⟩ := hsl
  have hle := x2.1.le
  have hho := (Array.getElem?_eq_some_iff.1 x5).1
  have hp0 := HP0.out
  have hxr := HB.out.2.2.2
  obtain ⟨R, hR⟩ : ∃ R, (giveR (devH t n A fe M) (n : Int) D A U true al 65537 [] M fe us) = R := ⟨_, rfl⟩
  have HR : Hid (R.us = (us + R.s.length) % 65536 ∧ R.s.length ≤ n ∧ (∀ j, j < R.s.length → ∃ h : Nat, R.s[j]? = some h ∧ h ≤ 65535 ∧ h256 (fun b => endM R n U ev (U + 4 + 8 * slotN n us j + b)) 4 0 = h) ∧ (R.s.length ≠ 0 → h256 (fun b => endM R n U ev (U + 2 + b)) 2 0 = R.us)) := crs_end HGD.out HAP.out hle HFU.out.1 HFU.out.2 hR
  have hgl : Gl (Ih t n D A U fe us ev al a mn c bs (fun g => w9.heap[g]?) w9.heap.size ho (W.heap.size + 1) p8 W.heap.size) (budH t) rb qb (n : Int) D A U true ev al w9 F (fun k => k = ho ∨ k = W.heap.size + 1 ∨ k = p8 ∨ k = W.heap.size ∨ ((Value.slice a mn c).ownBlock = some k ∧ 0 < mn)) w9 [] M fe us F (fun k => k = ho ∨ k = W.heap.size + 1 ∨ k = p8 ∨ k = W.heap.size ∨ ((Value.slice a mn c).ownBlock = some k ∧ 0 < mn)) 12000 := by
    refine ⟨x2.1, x3, ⟨none, 0, ⟨.inl rfl, .inr (.inl rfl), .inr (.inr (.inl rfl)), .inr (.inr (.inr (.inl rfl))), fun k hk => by simp [Value.ownBlock] at hk, fun k hk h0 => .inr (.inr (.inr (.inr ⟨hk, h0⟩))), ?_⟩, x5, x1.1.2.2, x1.2, x1.1.2.1, ⟨rfl, .inl ⟨rfl, rfl⟩⟩, href.mono (fun k hk => by simp [Value.ownBlock] at hk), ⟨by omega, by omega, by omega, by omega, by omega, by omega, by omega⟩, Nat.le_refl _, Nat.zero_le _, HT.out, fun z hz h0 => by have := (hxr z hz h0).2; omega, fun g hg h0 => ⟨by have := (hxr g hg h0).2; omega, rfl⟩⟩, ?_, fun hf => by have := HB.out.2.2.1 _ hf; omega, by unfold budH; have := HT.out; simp only [List.length_nil]; omega, Step.refl _ _⟩
    · rintro k (rfl | rfl | rfl | rfl | ⟨hk, h0⟩)
      · omega
      · omega
      · omega
      · omega
      · have := (hxr k hk h0).2; omega
    · rintro k (rfl | rfl | rfl | rfl | ⟨hk, h0⟩)
      · exact ⟨fun hf => by have := HB.out.2.2.1 _ hf; omega, by omega⟩
      · exact ⟨fun hf => by have := HB.out.2.1 _ hf; omega, by omega⟩
      · exact ⟨fun hf => by have := HB.out.2.2.1 _ hf; omega, by omega⟩
      · exact ⟨fun hf => by have := HB.out.2.1 _ hf; omega, by omega⟩
      · have := hxr k hk h0
        exact ⟨this.1, by omega⟩
  have KS : Hid (Calls Try.prog 11 #[.pointer (some ⟨qb, 0, none⟩), .pointer (some ⟨rb, 0, none⟩), .func (.func 12) #[] #[.pointer (some ⟨ho, 0, none⟩), .pointer (some ⟨W.heap.size + 1, 0, none⟩), .pointer (some ⟨p8, 0, none⟩), .pointer (some ⟨W.heap.size, 0, none⟩)]] w9 fun e w' => e = .returned (.tuple #[.bool (tellB (endM R n U ev) n A R.us us ev), .int .i64 R.e]) ∧ Send (Ih t n D A U fe us ev al a mn c bs (fun g => w9.heap[g]?) w9.heap.size ho (W.heap.size + 1) p8 W.heap.size) rb qb n D A U ev al w9 F (fun k => k = ho ∨ k = W.heap.size + 1 ∨ k = p8 ∨ k = W.heap.size ∨ ((Value.slice a mn c).ownBlock = some k ∧ 0 < mn)) R w') := serve_any (dev_heads hle HGD.out HFU.out.1 (by omega) hgt rb) HGD.out HFU.out.1 HFU.out.2 hgl R hR
  have XS : Hid (Below W.heap.size W w9 ∧ (∀ k, F k → W.heap.size + 2 ≤ k) ∧ W.heap.size + 2 ≤ p8 ∧ p8 < qb ∧ qb < ho) := ⟨x1.1.1, HB.out.2.1, HP0.out, x4, x6⟩
  have hmf : ∀ (fn : Fn) (first cap : Array Value) (w : World), (Instr.makeFunc fn first cap).run Try.prog w = .ok (.func fn first cap) w := fun _ _ _ _ => rfl
  obtain ⟨tb, htb⟩ : ∃ tb, tellB (endM R n U ev) n A R.us us ev = tb := ⟨_, rfl⟩
  obtain ⟨re, hre⟩ : ∃ re, R.e = re := ⟨_, rfl⟩
  rw [htb, hre] at KS
  clear hgl x1 x2 x3 x4 x5 x6 hR htb hre hle HB X9 href hgt hrng hnb hho hp0 hxr
  go_upto_region 9 with (go_at_call 11; refine (KS.out).mono ?_; rintro e wa ⟨rfl, F3, O3, κ3, hr3, hq3, hi3, hO3, hn3, hk3, hs3⟩; have Xa : Hid (RamAt wa F3 rb 8192 κ3 (.pointer none) (endM R n U ev) ∧ wa.heap[qb]? = some (.cells #[.int .i64 (n : Int), .int .u64 (D : Int), .int .u64 (A : Int), .int .u64 (U : Int), .bool true, .int .u16 (R.fe : Int), .int .u16 (R.us : Int), .bool ev, .bool al] 40 (0, 0)) ∧ Ih t n D A U fe us ev al a mn c bs (fun g => w9.heap[g]?) w9.heap.size ho (W.heap.size + 1) p8 W.heap.size R.s O3 wa ∧ Step (fun k => (F k ∨ (fun k => k = ho ∨ k = W.heap.size + 1 ∨ k = p8 ∨ k = W.heap.size ∨ ((Value.slice a mn c).ownBlock = some k ∧ 0 < mn)) k) ∨ k = qb) w9 (fun k => (F3 k ∨ O3 k) ∨ k = qb) wa) := ⟨hr3, hq3, hi3, hs3⟩; clear hr3 hq3 hi3 hO3 hn3 hk3 hs3 hmf KS)
  obtain ⟨z1, z2, ⟨va, vc, i0, i1, i2, i3, i4, i5, i6, i7, i8, i9, i10, i11, i12⟩, z4⟩ := Xa.out
  have hbW : Below W.heap.size W wa := by
    have y := XS.out
    refine ⟨z4.os.trans y.1.os, z4.tape.trans y.1.tape, z4.output.trans y.1.output, Nat.le_trans y.1.size z4.size, fun k hk => ?_⟩
    by_cases hrw : (Value.slice a mn c).ownBlock = some k ∧ 0 < mn
    · exact (i12 k hrw.1 hrw.2).2.trans (y.1.block k hk)
    · refine (z4.block k (Nat.lt_of_lt_of_le hk y.1.size) ?_).trans (y.1.block k hk)
      rintro ((hf | hf | hf | hf | hf | hf) | hf)
      · have := y.2.1 k hf; omega
      · omega
      · omega
      · omega
      · omega
      · exact hrw hf
      · omega
  have XL : Hid (Below W.heap.size W wa ∧ wa.heap[qb]? = some (.cells #[.int .i64 (n : Int), .int .u64 (D : Int), .int .u64 (A : Int), .int .u64 (U : Int), .bool true, .int .u16 (R.fe : Int), .int .u16 (R.us : Int), .bool ev, .bool al] 40 (0, 0)) ∧ wa.heap[ho]? = some (.cells #[.slice va R.s.length vc] 42 (0, 0)) ∧ wa.heap[W.heap.size]? = some (.cells #[.int .i64 (n : Int), .int .u64 (D : Int), .int .u64 (A : Int), .int .u64 (U : Int), .bool true, .int .i64 (fe : Int), .int .i64 (us : Int), .bool ev, .bool al] 27 (0, 0)) ∧ wa.ownsRow w9.heap.size 38 1 (.slice va R.s.length vc) R.s.length (headsRow R.s) ∧ RamAt wa F3 rb 8192 κ3 (.pointer none) (endM R n U ev)) := ⟨hbW, z2, i1, i4, i5, z1⟩
  clear z1 z2 i0 i1 i2 i3 i4 i5 i6 i7 i8 i9 i10 i11 i12 z4 Xa XS hbW
  have hkn := HR.out.2.1
  have hn2 := HGD.out.n2
  obtain ⟨k, hk⟩ : ∃ k, R.s.length = k := ⟨_, rfl⟩
  rw [hk] at XL hkn
  have HK : Hid (R.s.length = k ∧ k ≤ n ∧ n ≤ 256 ∧ 1 ≤ n) := ⟨hk, hkn, hn2, HGD.out.n1⟩
  obtain ⟨ux, hux⟩ : ∃ ux, R.us = ux := ⟨_, rfl⟩
  obtain ⟨fx, hfx⟩ : ∃ fx, R.fe = fx := ⟨_, rfl⟩
  rw [hux, hfx] at XL
  have HUX : Hid (R.us = ux ∧ ux ≤ 65535) := ⟨hux, by have := HR.out.1; omega⟩
  have e1 : IntKind.u16.wrap (us : Int) = (us : Int) := u16_id HFU.out.2
  have e2 : IntKind.u16.wrap ((ux : Int) - (us : Int)) = (k : Int) := used_back HFU.out.2 (by rw [← hux, HR.out.1, hk]) (by omega)
  have e3 : IntKind.i64.wrap (k : Int) = (k : Int) := wrapRl k (by omega)
  have eq1 : ((k : Int) != (k : Int)) = false := by simp
  have gt1 : ¬ (n : Int) < (k : Int) := by omega
  clear hk hux hkn hn2 hfx
  obtain ⟨q0, q1', q2, q3, q4, q5, q6, q7, q8⟩ := box9_facts XL.out.2.1
  obtain ⟨c0, c1, c2, c3, c4, c5, c6, c7, c8⟩ := box9_facts XL.out.2.2.2.1
  obtain ⟨a0, a1⟩ := box1_facts XL.out.2.2.1
  go_upto_region 12 with fail
  have XM : Hid (Lh W wa ho qb va k vc R.s n D A U fe us fx ux ev al rb κ3 F3 (endM R n U ev) w9.heap.size) := ⟨XL.out.1, XL.out.2.1, XL.out.2.2.1, XL.out.2.2.2.1, XL.out.2.2.2.2.1, XL.out.2.2.2.2.2⟩
  have e4 : wrap64 ((k : Int) - (n : Int)) = (k : Int) - (n : Int) := less_id HK.out.2.1 HK.out.2.2.1
  have e5 : (if (k : Int) - (n : Int) < 0 then (0 : Int) else (k : Int) - (n : Int)) = 0 := less_max HK.out.2.1
  have e6 : (if (0 : Int) < (k : Int) - (n : Int) then (k : Int) - (n : Int) else 0) = 0 := less_max2 HK.out.2.1
  have e7 : max (0 : Int) ((k : Int) - (n : Int)) = 0 := max_zero HK.out.2.1
  clear XL q0 q1' q2 q3 q4 q5 q6 q7 q8 a0 a1
  go_upto_region 13 with fail
  clear e4 e5 e6 e7
  go_loopw [14] (fun x wr => ∃ i : Nat, i ≤ k ∧ x = .int .i64 (i : Int) ∧ Below wa.heap.size wa wr) (fun x _ => k - (intOf x).toNat)
  case atStart => exact ⟨0, Nat.zero_le _, (by first | rfl | simp), Below.refl _ _⟩
  case round =>
    obtain ⟨i, hi, rfl, hbr⟩ := hrel
    have Xr : Hid (Lh W wr ho qb va k vc R.s n D A U fe us fx ux ev al rb κ3 F3 (endM R n U ev) w9.heap.size) := XM.out.below hbr
    have HBr : Hid (Below wa.heap.size wa wr) := hbr
    clear hbr
    obtain ⟨c0, c1, c2, c3, c4, c5, c6, c7, c8⟩ := box9_facts Xr.out.2.2.2.1
    by_cases hik : i < k
    case neg =>
      obtain ⟨u2, hu2⟩ : ∃ u2, U + 2 = u2 := ⟨_, rfl⟩
      have f1 : IntKind.u64.wrap ((U : Int) + 2) = (u2 : Int) := by rw [← hu2]; exact up_u64 U 2 HGD.out.u2
      obtain ⟨ix, hix⟩ : ∃ ix, h256 (fun b => endM R n U ev (u2 + b)) 2 0 = ix := ⟨_, rfl⟩
      have KL : Hid (∀ V, (Lh W V ho qb va k vc R.s n D A U fe us fx ux ev al rb κ3 F3 (endM R n U ev) w9.heap.size) → Calls Try.prog 14 #[.pointer (some ⟨rb, 0, none⟩), .int .u64 (u2 : Int), .int .i64 2] V fun e w' => e = .returned (.tuple #[.int .u64 (ix : Int), .bool true]) ∧ Below V.heap.size V w') := by
        intro V hV
        have := load_yes hV.2.2.2.2.2 (by omega) u2 2 (u2_small hu2 HGD.out.u2) rfl (u2_in hu2 HGD.out.u1 HGD.out.u2)
        rw [hix] at this
        exact this
      have HIX : Hid (k ≠ 0 → ix = ux) := fun h0 => by
        have h1 := HR.out.2.2.2 (by rw [HK.out.1]; exact h0)
        rw [hu2, hix] at h1
        rw [h1]
        exact HUX.out.1
      clear hi hu2 hix
      go_upto_region 20 with (go_at_call 14; refine (KL.out _ Xr.out).mono ?_; rintro e wl ⟨rfl, hbl⟩; have Xl : Hid (Lh W wl ho qb va k vc R.s n D A U fe us fx ux ev al rb κ3 F3 (endM R n U ev) w9.heap.size) := Xr.out.below hbl; clear hbl KL Xr c0 c1 c2 c3 c4 c5 c6 c7 c8)
      obtain ⟨q0, q1', q2, q3, q4, q5, q6, q7, q8⟩ := box9_facts Xl.out.2.1
      have f2 : IntKind.u64.wrap (ux : Int) = (ux : Int) := u64_id16 HUX.out.2
      by_cases hk0 : k = 0
      · have HK0 : Hid (k = 0) := hk0
        have q1 : ((k : Int) == 0) = true := by simp [hk0]
        clear hk0
        go_wp2_with fail
        go_ret
        exact ⟨rfl, Xl.out.1⟩
      · have q1 : ((k : Int) == 0) = false := by simp; exact hk0
        obtain rfl : ix = ux := HIX.out hk0
        have q2' : ((ix : Int) == (ix : Int)) = true := by simp
        clear hk0
        go_wp2_with fail
        go_ret
        exact ⟨rfl, Xl.out.1⟩
    have hiki : (i : Int) < (k : Int) := Int.ofNat_lt.2 hik
    have HI : Hid (i < k) := hik
    obtain ⟨hj, hj1, hj2, hj3⟩ := HR.out.2.2.1 i (by rw [HK.out.1]; exact hik)
    obtain ⟨u4, si, m1, m2, m8, x, f1, f2, f2', f3, f3', f4, f4', f5, f6, f7, hx, hxin, hxs⟩ := entry_facts (i := i) HGD.out HFU.out.2 (Nat.le_trans (Nat.le_of_lt hik) (Nat.le_trans HK.out.2.1 HK.out.2.2.1))
    rw [hx] at hj3
    have KL : Hid (∀ V, (Lh W V ho qb va k vc R.s n D A U fe us fx ux ev al rb κ3 F3 (endM R n U ev) w9.heap.size) → Calls Try.prog 14 #[.pointer (some ⟨rb, 0, none⟩), .int .u64 (x : Int), .int .i64 4] V fun e w' => e = .returned (.tuple #[.int .u64 (hj : Int), .bool true]) ∧ Below V.heap.size V w') := by
      intro V hV
      have := load_yes hV.2.2.2.2.2 (by omega) x 4 hxs rfl hxin
      rw [hj3] at this
      exact this
    have HJ : Hid (R.s[i]? = some hj ∧ hj ≤ 65535) := ⟨hj1, hj2⟩
    have hn0 : ¬ n = 0 := pos_ne HK.out.2.2.2
    clear hj1 hj2 hj3 hx hxin hxs hi
    go_upto_region 15 with fail
    have Xd : Hid (Lh W wr.drew ho qb va k vc R.s n D A U fe us fx ux ev al rb κ3 F3 (endM R n U ev) w9.heap.size) := Xr.out.below (Below.drew (Below.refl _ _))
    refine wp_region_held_drew (S := fun Z => Z.cell? ⟨W.heap.size, 0, none⟩ = some (.int .i64 (n : Int)) ∧ Z.cell? ⟨W.heap.size, 3, none⟩ = some (.int .u64 (U : Int)) ∧ Z.cell? ⟨W.heap.size, 6, none⟩ = some (.int .i64 (us : Int))) (by kernel_rfl) ⟨cellOf Xd.out.2.2.2.1 0 _ rfl, cellOf Xd.out.2.2.2.1 3 _ rfl, cellOf Xd.out.2.2.2.1 6 _ rfl⟩ ?_
    intro hS
    clear c0 c1 c2 c3 c4 c5 c6 c7 c8
    have HBD : Hid (Below wa.heap.size wa wr.drew) := below_to HBr.out (Below.drew (Below.refl _ _))
    generalize wr.drew = wd at *
    refine wpAnyH_take (i := 0) (v := ?_) rfl (by kernel_rfl) (by kernel_rfl) (by kernel_rfl) (fun _ _ _ h => h) (Or.inl ⟨by kernel_rfl, ?_⟩) hS ?_
    rotate_left
    · intro w hSw; (try dsimp only at hSw); go_simp; try (with_reducible rfl)
    (try simp only [Act.put, List.getElem_toArray, List.getElem_cons_succ, List.getElem_cons_zero, List.setIfInBounds_toArray, List.set_cons_zero, List.set_cons_succ])
    refine wpAnyH_take (i := 1) (v := ?_) rfl (by kernel_rfl) (by kernel_rfl) (by kernel_rfl) (fun _ _ _ h => h) (Or.inl ⟨by kernel_rfl, ?_⟩) hS ?_
    rotate_left
    · intro w hSw; (try dsimp only at hSw); go_simp; try (with_reducible rfl)
    (try simp only [Act.put, List.getElem_toArray, List.getElem_cons_succ, List.getElem_cons_zero, List.setIfInBounds_toArray, List.set_cons_zero, List.set_cons_succ])
    refine wpAnyH_take (i := 2) (v := ?_) rfl (by kernel_rfl) (by kernel_rfl) (by kernel_rfl) (fun _ _ _ h => h) (Or.inl ⟨by kernel_rfl, ?_⟩) hS ?_
    rotate_left
    · intro w hSw; (try dsimp only at hSw); go_simp; try (with_reducible rfl)
    (try simp only [Act.put, List.getElem_toArray, List.getElem_cons_succ, List.getElem_cons_zero, List.setIfInBounds_toArray, List.set_cons_zero, List.set_cons_succ])
    refine wpAnyH_take (i := 3) (v := ?_) rfl (by kernel_rfl) (by kernel_rfl) (by kernel_rfl) (fun _ _ _ h => h) (Or.inl ⟨by kernel_rfl, ?_⟩) hS ?_
    rotate_left
    · intro w hSw; (try dsimp only at hSw); go_simp; try (with_reducible rfl)
    (try simp only [Act.put, List.getElem_toArray, List.getElem_cons_succ, List.getElem_cons_zero, List.setIfInBounds_toArray, List.set_cons_zero, List.set_cons_succ])
    refine wpAnyH_take (i := 4) (v := ?_) rfl (by kernel_rfl) (by kernel_rfl) (by kernel_rfl) (fun _ _ _ h => h) (Or.inl ⟨by kernel_rfl, ?_⟩) hS ?_
    rotate_left
    · intro w hSw; (try dsimp only at hSw); go_simp; try (with_reducible rfl)
    (try simp only [Act.put, List.getElem_toArray, List.getElem_cons_succ, List.getElem_cons_zero, List.setIfInBounds_toArray, List.set_cons_zero, List.set_cons_succ])
    refine wpAnyH_take (i := 5) (v := ?_) rfl (by kernel_rfl) (by kernel_rfl) (by kernel_rfl) (fun _ _ _ h => h) (Or.inl ⟨by kernel_rfl, ?_⟩) hS ?_
    rotate_left
    · intro w hSw; (try dsimp only at hSw); go_simp; try (with_reducible rfl)
    (try simp only [Act.put, List.getElem_toArray, List.getElem_cons_succ, List.getElem_cons_zero, List.setIfInBounds_toArray, List.set_cons_zero, List.set_cons_succ])
    refine wpAnyH_take (i := 6) (v := ?_) rfl (by kernel_rfl) (by kernel_rfl) (by kernel_rfl) (fun _ _ _ h => h) (Or.inl ⟨by kernel_rfl, ?_⟩) hS ?_
    rotate_left
    · intro w hSw; (try dsimp only at hSw); go_simp; try (with_reducible rfl)
    (try simp only [Act.put, List.getElem_toArray, List.getElem_cons_succ, List.getElem_cons_zero, List.setIfInBounds_toArray, List.set_cons_zero, List.set_cons_succ])
    refine wpAnyH_take (i := 7) (v := ?_) rfl (by kernel_rfl) (by kernel_rfl) (by kernel_rfl) (fun _ _ _ h => h) (Or.inl ⟨by kernel_rfl, ?_⟩) hS ?_
    rotate_left
    · intro w hSw; (try dsimp only at hSw); go_simp; try (with_reducible rfl)
    (try simp only [Act.put, List.getElem_toArray, List.getElem_cons_succ, List.getElem_cons_zero, List.setIfInBounds_toArray, List.set_cons_zero, List.set_cons_succ])
    refine wpAnyH_take (i := 8) (v := ?_) rfl (by kernel_rfl) (by kernel_rfl) (by kernel_rfl) (fun _ _ _ h => h) (Or.inl ⟨by kernel_rfl, ?_⟩) hS ?_
    rotate_left
    · intro w hSw; (try dsimp only at hSw); go_simp; try (with_reducible rfl)
    (try simp only [Act.put, List.getElem_toArray, List.getElem_cons_succ, List.getElem_cons_zero, List.setIfInBounds_toArray, List.set_cons_zero, List.set_cons_succ])
    refine wpAnyH_take (i := 9) (v := ?_) rfl (by kernel_rfl) (by kernel_rfl) (by kernel_rfl) (fun _ _ _ h => h) (Or.inl ⟨by kernel_rfl, ?_⟩) hS ?_
    rotate_left
    · intro w hSw; (try dsimp only at hSw); go_simp; try (with_reducible rfl)
    (try simp only [Act.put, List.getElem_toArray, List.getElem_cons_succ, List.getElem_cons_zero, List.setIfInBounds_toArray, List.set_cons_zero, List.set_cons_succ])
    refine wpAnyH_take (i := 10) (v := ?_) rfl (by kernel_rfl) (by kernel_rfl) (by kernel_rfl) (fun _ _ _ h => h) (Or.inl ⟨by kernel_rfl, ?_⟩) hS ?_
    rotate_left
    · intro w hSw; (try dsimp only at hSw); go_simp; try (with_reducible rfl)
    (try simp only [Act.put, List.getElem_toArray, List.getElem_cons_succ, List.getElem_cons_zero, List.setIfInBounds_toArray, List.set_cons_zero, List.set_cons_succ])
    refine wpAnyH_take (i := 11) (v := ?_) rfl (by kernel_rfl) (by kernel_rfl) (by kernel_rfl) (fun _ _ _ h => h) (Or.inl ⟨by kernel_rfl, ?_⟩) hS ?_
    rotate_left
    · intro w hSw; (try dsimp only at hSw); go_simp; try (with_reducible rfl)
    (try simp only [Act.put, List.getElem_toArray, List.getElem_cons_succ, List.getElem_cons_zero, List.setIfInBounds_toArray, List.set_cons_zero, List.set_cons_succ])
    refine wpAnyH_take (i := 12) (v := ?_) rfl (by kernel_rfl) (by kernel_rfl) (by kernel_rfl) (fun _ _ _ h => h) (Or.inl ⟨by kernel_rfl, ?_⟩) hS ?_
    rotate_left
    · intro w hSw; (try dsimp only at hSw); go_simp; try (with_reducible rfl)
    (try simp only [Act.put, List.getElem_toArray, List.getElem_cons_succ, List.getElem_cons_zero, List.setIfInBounds_toArray, List.set_cons_zero, List.set_cons_succ])
    refine wpAnyH_take (i := 13) (v := ?_) rfl (by kernel_rfl) (by kernel_rfl) (by kernel_rfl) (fun _ _ _ h => h) (Or.inl ⟨by kernel_rfl, ?_⟩) hS ?_
    rotate_left
    · intro w hSw; (try dsimp only at hSw); go_simp; try (with_reducible rfl)
    (try simp only [Act.put, List.getElem_toArray, List.getElem_cons_succ, List.getElem_cons_zero, List.setIfInBounds_toArray, List.set_cons_zero, List.set_cons_succ])
    refine wpAnyH_take (i := 14) (v := ?_) rfl (by kernel_rfl) (by kernel_rfl) (by kernel_rfl) (fun _ _ _ h => h) (Or.inl ⟨by kernel_rfl, ?_⟩) hS ?_
    rotate_left
    · intro w hSw; (try dsimp only at hSw); go_simp; try (with_reducible rfl)
    (try simp only [Act.put, List.getElem_toArray, List.getElem_cons_succ, List.getElem_cons_zero, List.setIfInBounds_toArray, List.set_cons_zero, List.set_cons_succ])
    refine wpAnyH_take (i := 15) (v := ?_) rfl (by kernel_rfl) (by kernel_rfl) (by kernel_rfl) (fun _ _ _ h => h) (Or.inl ⟨by kernel_rfl, ?_⟩) hS ?_
    rotate_left
    · intro w hSw; (try dsimp only at hSw); go_simp; try (with_reducible rfl)
    (try simp only [Act.put, List.getElem_toArray, List.getElem_cons_succ, List.getElem_cons_zero, List.setIfInBounds_toArray, List.set_cons_zero, List.set_cons_succ])
    refine wpAnyH_take (i := 16) (v := ?_) rfl (by kernel_rfl) (by kernel_rfl) (by kernel_rfl) (fun _ _ _ h => h) (Or.inl ⟨by kernel_rfl, ?_⟩) hS ?_
    rotate_left
    · intro w hSw; (try dsimp only at hSw); go_simp; try (with_reducible rfl)
    (try simp only [Act.put, List.getElem_toArray, List.getElem_cons_succ, List.getElem_cons_zero, List.setIfInBounds_toArray, List.set_cons_zero, List.set_cons_succ])
    refine wpAnyH_done (by kernel_rfl) ?_ _
    clear hS f1 f2 f2' f3 f3' f4 f4' f5 f6 f7
    go_upto_region 17 with (go_at_call 14; refine (KL.out _ Xd.out).mono ?_; rintro e wl ⟨rfl, hbl⟩; have Xl : Hid ((Lh W wl ho qb va k vc R.s n D A U fe us fx ux ev al rb κ3 F3 (endM R n U ev) w9.heap.size) ∧ Below wd.heap.size wd wl) := ⟨Xd.out.below hbl, hbl⟩; clear hbl KL)
    obtain ⟨hg, rfl, hc⟩ := head_at Xl.out.1.2.2.2.2.1 HK.out.1 HI.out HJ.out.1
    obtain ⟨a0, a1⟩ := box1_facts Xl.out.1.2.2.1
    have f8 : IntKind.u64.wrap (hj : Int) = (hj : Int) := u64_id16 HJ.out.2
    have q1 : ((hj : Int) != (hj : Int)) = false := by simp
    have e9 : wrap64 ((i : Int) + 1) = ((i + 1 : Nat) : Int) := count_up i (Nat.le_trans (Nat.le_of_lt HI.out) (Nat.le_trans HK.out.2.1 (Nat.le_trans HK.out.2.2.1 (by decide))))
    go_wp2_with fail
    go_roundw
    case rel => first | exact ⟨i + 1, HI.out, (by first | rfl | rw [e9]), below_to HBD.out Xl.out.2⟩ | ((repeat apply Exists.intro); have hq : i + 1 ≤ k := HI.out; exact ⟨hq, (by first | rfl | rw [e9]), below_to HBD.out Xl.out.2⟩)
    case measure => exact less_one (by first | rfl | rw [e9]) HI.out
end Go.Proofs.Ytmjdnocilbnoaaa
