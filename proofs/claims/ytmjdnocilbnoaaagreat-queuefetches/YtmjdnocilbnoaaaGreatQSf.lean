/- QueueFetches. -/
import Derived.Test.YtmjdnocilbnoaaaGreatZi
import Derived.Test.YtmjdnocilbnoaaaGreatZj
import Derived.Test.YtmjdnocilbnoaaaGreatZf
import Derived.Test.YtmjdnocilbnoaaaGreatZb
import Derived.Test.YtmjdnocilbnoaaaGreatZk
namespace Go.Proofs.YtmjdnocilbnoaaaGreat
open Go.RowKit Go.Maps
set_option linter.unusedVariables false
set_option linter.unusedSimpArgs false
set_option maxRecDepth 100000
theorem apart_self {M : Nat → Nat} : ∀ k, Apart M M k → k = 0 ∨ k = 0 := by
  rintro k ⟨i, _, h⟩
  exact absurd rfl h
set_option maxHeartbeats 8000000 in
theorem fetches_core (W : World) (v : Value) (len : Nat) (ps : Nat → PutD) (hws : PutsIn W v len ps) (s : Int) (D A U : Nat) (rd : Bool) (fi ui : Int) (ev al : Bool) (hD : D < 18446744073709551616) (hA : A < 18446744073709551616) (hU : U < 18446744073709551616) : Calls Tryz.prog 4 #[v, .agg #[.int .i64 s, .int .u64 (D : Int), .int .u64 (A : Int), .int .u64 (U : Int), .bool rd, .int .i64 fi, .int .i64 ui, .bool ev, .bool al]] W fun e w' => e = .returned (.bool true) ∧ Below W.heap.size W w' := by
  have X0 : Hid (Below W.heap.size W (W.alloc (.cells #[.int .i64 s, .int .u64 (D : Int), .int .u64 (A : Int), .int .u64 (U : Int), .bool rd, .int .i64 fi, .int .i64 ui, .bool ev, .bool al] 27)) ∧ (W.alloc (.cells #[.int .i64 s, .int .u64 (D : Int), .int .u64 (A : Int), .int .u64 (U : Int), .bool rd, .int .i64 fi, .int .i64 ui, .bool ev, .bool al] 27)).heap[W.heap.size]? = some (.cells #[.int .i64 s, .int .u64 (D : Int), .int .u64 (A : Int), .int .u64 (U : Int), .bool rd, .int .i64 fi, .int .i64 ui, .bool ev, .bool al] 27 (0, 0))) := ⟨one_box _ _, heap_alloc_new _ _⟩
  have HW : Hid (PutsIn W v len ps) := hws
  have HU : Hid (D < 18446744073709551616 ∧ A < 18446744073709551616 ∧ U < 18446744073709551616) := ⟨hD, hA, hU⟩
  clear hws hD hA hU
  go_enter Tryz.func4, Tryz.ntmps4
  go_upto_region 1 with fail
  generalize W.alloc (.cells #[.int .i64 s, .int .u64 (D : Int), .int .u64 (A : Int), .int .u64 (U : Int), .bool rd, .int .i64 fi, .int .i64 ui, .bool ev, .bool al] 27) = v0 at *
  go_upto_region 3 with (go_at_call 6; refine (awake_any _).mono ?_; rintro e w1 ⟨rfl, hb1⟩; have X1 : Hid (Below W.heap.size W w1 ∧ w1.heap[W.heap.size]? = some (.cells #[.int .i64 s, .int .u64 (D : Int), .int .u64 (A : Int), .int .u64 (U : Int), .bool rd, .int .i64 fi, .int .i64 ui, .bool ev, .bool al] 27 (0, 0))) := ⟨below_to X0.out.1 hb1, below_box X0.out.2 hb1⟩; clear hb1 X0)
  go_upto_region 4 with (go_at_call 7; refine (memory_any _ len ps _ (HW.out.up X1.out.1)).mono ?_; rintro e w2 ⟨pv, a, n, c, rfl, hb2, hor⟩; have X2 : Hid (Below W.heap.size W w2 ∧ w2.heap[W.heap.size]? = some (.cells #[.int .i64 s, .int .u64 (D : Int), .int .u64 (A : Int), .int .u64 (U : Int), .bool rd, .int .i64 fi, .int .i64 ui, .bool ev, .bool al] 27 (0, 0))) := ⟨below_to X1.out.1 hb2, below_box X1.out.2 hb2⟩)
  have hb3 : Below w2.heap.size w2 (w2.alloc (.cells #[.int .u64 8192, .slice a n c] 33)) := one_box _ _
  have X3 : Hid ((Below W.heap.size W (w2.alloc (.cells #[.int .u64 8192, .slice a n c] 33)) ∧ (w2.alloc (.cells #[.int .u64 8192, .slice a n c] 33)).heap[W.heap.size]? = some (.cells #[.int .i64 s, .int .u64 (D : Int), .int .u64 (A : Int), .int .u64 (U : Int), .bool rd, .int .i64 fi, .int .i64 ui, .bool ev, .bool al] 27 (0, 0))) ∧ (w2.alloc (.cells #[.int .u64 8192, .slice a n c] 33)).heap[w2.heap.size]? = some (.cells #[.int .u64 8192, .slice a n c] 33 (0, 0))) := ⟨⟨below_to X2.out.1 hb3, below_box X2.out.2 hb3⟩, heap_alloc_new _ _⟩
  have Z3 : Hid ((pv = .pointer none ∧ 0 < len) ∨ ∃ rb F M, pv = .pointer (some ⟨rb, 0, none⟩) ∧ Both F (w2.alloc (.cells #[.int .u64 8192, .slice a n c] 33)) rb 8192 (.slice a n c) 12000 M ∧ (∀ k, F k → W.heap.size + 1 ≤ k) ∧ ¬ F w2.heap.size) := hor.imp id (fun ⟨rb, F, M, h1, h2, h3⟩ => ⟨rb, F, M, h1, h2.below hb3, fun k hk => Nat.le_trans (Array.getElem?_eq_some_iff.1 X1.out.2).1 (h3 k hk), fun hf => by have := h2.1.lt _ hf; omega⟩)
  clear hor hb2 hb3 X1 X2
  generalize w2.alloc (.cells #[.int .u64 8192, .slice a n c] 33) = w3 at *
  generalize w2.heap.size = p at *
  obtain ⟨c0, c1, c2, c3, c4, c5, c6, c7, c8⟩ := box9_facts X3.out.1.2
  rcases Z3.out with ⟨rfl, _⟩ | ⟨rb, F, M, rfl, hB, hF, hFp⟩
  · clear Z3
    go_wp2_with fail
    go_ret
    exact ⟨rfl, X3.out.1.1⟩
  have HB : Hid (Both F w3 rb 8192 (.slice a n c) 12000 M ∧ (∀ k, F k → W.heap.size + 1 ≤ k) ∧ ¬ F p) := ⟨hB, hF, hFp⟩
  clear hB hF hFp Z3
  by_cases hin : inQ fi ui
  case neg =>
    go_wp2_with (go_at_call 8; refine (right_no hin).mono ?_; rintro e w4 ⟨rfl, hb4⟩; have X4 : Hid (Below W.heap.size W w4) := below_to X3.out.1.1 hb4; clear hb4)
    go_ret
    exact ⟨rfl, X4.out⟩
  obtain ⟨fe, us, rfl, rfl, hfe, hus⟩ := inQ_nat hin
  have HFU : Hid (fe ≤ 65535 ∧ us ≤ 65535) := ⟨hfe, hus⟩
  clear hin hfe hus
  go_upto_region 6 with (first | (go_at_call 8; refine (right_yes HFU.out.1 HFU.out.2).mono ?_; rintro e w4 ⟨rfl, hb4⟩; have X4 : Hid (((Below W.heap.size W w4 ∧ w4.heap[W.heap.size]? = some (.cells #[.int .i64 s, .int .u64 (D : Int), .int .u64 (A : Int), .int .u64 (U : Int), .bool rd, .int .i64 (fe : Int), .int .i64 (us : Int), .bool ev, .bool al] 27 (0, 0))) ∧ w4.heap[p]? = some (.cells #[.int .u64 8192, .slice a n c] 33 (0, 0))) ∧ Both F w4 rb 8192 (.slice a n c) 12000 M) := ⟨⟨⟨below_to X3.out.1.1 hb4, below_box X3.out.1.2 hb4⟩, below_box X3.out.2 hb4⟩, HB.out.1.below hb4⟩; clear hb4 X3 c0 c1 c2 c3 c4 c5 c6 c7 c8; obtain ⟨c0, c1, c2, c3, c4, c5, c6, c7, c8⟩ := box9_facts X4.out.1.1.2))
  go_upto_region 7 with (go_at_call 9; refine (copy_any X4.out.2.1 (by omega)).mono ?_; rintro e w5 ⟨rb2, F2, rfl, hr2, hF2, hb5⟩; have X5 : Hid ((((Below W.heap.size W w5 ∧ w5.heap[W.heap.size]? = some (.cells #[.int .i64 s, .int .u64 (D : Int), .int .u64 (A : Int), .int .u64 (U : Int), .bool rd, .int .i64 (fe : Int), .int .i64 (us : Int), .bool ev, .bool al] 27 (0, 0))) ∧ w5.heap[p]? = some (.cells #[.int .u64 8192, .slice a n c] 33 (0, 0))) ∧ Both F w5 rb 8192 (.slice a n c) 12000 M) ∧ RamAt w5 F2 rb2 8192 12000 (.pointer none) M ∧ ∀ k, F2 k → ¬ F k) := ⟨⟨⟨⟨below_to X4.out.1.1.1 hb5, below_box X4.out.1.1.2 hb5⟩, below_box X4.out.1.2 hb5⟩, X4.out.2.below hb5⟩, hr2, fun k hk hf => by have h1 := hF2 k hk; have h2 := X4.out.2.1.lt k hf; omega⟩; clear hr2 hF2 hb5 X4 c0 c1 c2 c3 c4 c5 c6 c7 c8)
  obtain ⟨c0, c1, c2, c3, c4, c5, c6, c7, c8⟩ := box9_facts X5.out.1.1.1.2
  go_upto_region 8 with (go_at_call 10; refine (lawOf_any HFU.out.1 HFU.out.2).mono ?_; rintro e w6 ⟨rfl, hb6⟩; have X6 : Hid ((((Below W.heap.size W w6 ∧ w6.heap[W.heap.size]? = some (.cells #[.int .i64 s, .int .u64 (D : Int), .int .u64 (A : Int), .int .u64 (U : Int), .bool rd, .int .i64 (fe : Int), .int .i64 (us : Int), .bool ev, .bool al] 27 (0, 0))) ∧ w6.heap[p]? = some (.cells #[.int .u64 8192, .slice a n c] 33 (0, 0))) ∧ Both F w6 rb 8192 (.slice a n c) 12000 M) ∧ RamAt w6 F2 rb2 8192 12000 (.pointer none) M ∧ ∀ k, F2 k → ¬ F k) := ⟨⟨⟨⟨below_to X5.out.1.1.1.1 hb6, below_box X5.out.1.1.1.2 hb6⟩, below_box X5.out.1.1.2 hb6⟩, X5.out.1.2.below hb6⟩, X5.out.2.1.below hb6, X5.out.2.2⟩; clear hb6 X5 c0 c1 c2 c3 c4 c5 c6 c7 c8)
  obtain ⟨nb, bs, hnb, ⟨a', c', hsl⟩, href, hgt, hrng⟩ := X6.out.1.2.2
  simp only [Value.slice.injEq] at hsl
  obtain ⟨rfl, rfl, rfl⟩ := hsl
  have hb7 : Below w6.heap.size w6 (w6.alloc (.cells #[.int .i64 s, .int .u64 (D : Int), .int .u64 (A : Int), .int .u64 (U : Int), .bool rd, .int .u16 (fe : Int), .int .u16 (us : Int), .bool ev, .bool al] 40)) := one_box _ _
  have X7 : Hid (Ss W (w6.alloc (.cells #[.int .i64 s, .int .u64 (D : Int), .int .u64 (A : Int), .int .u64 (U : Int), .bool rd, .int .u16 (fe : Int), .int .u16 (us : Int), .bool ev, .bool al] 40)) (fun k => F k ∨ k = w6.heap.size) [(p, (.cells #[.int .u64 8192, .slice a n c] 33 (0, 0))), (W.heap.size, (.cells #[.int .i64 s, .int .u64 (D : Int), .int .u64 (A : Int), .int .u64 (U : Int), .bool rd, .int .i64 (fe : Int), .int .i64 (us : Int), .bool ev, .bool al] 27 (0, 0)))] rb2 F2 M a n c bs ∧ RamAt (w6.alloc (.cells #[.int .i64 s, .int .u64 (D : Int), .int .u64 (A : Int), .int .u64 (U : Int), .bool rd, .int .u16 (fe : Int), .int .u16 (us : Int), .bool ev, .bool al] 40)) F rb 8192 12000 (.pointer none) M ∧ (w6.alloc (.cells #[.int .i64 s, .int .u64 (D : Int), .int .u64 (A : Int), .int .u64 (U : Int), .bool rd, .int .u16 (fe : Int), .int .u16 (us : Int), .bool ev, .bool al] 40)).heap[w6.heap.size]? = some (.cells #[.int .i64 s, .int .u64 (D : Int), .int .u64 (A : Int), .int .u64 (U : Int), .bool rd, .int .u16 (fe : Int), .int .u16 (us : Int), .bool ev, .bool al] 40 (0, 0)) ∧ ¬ F w6.heap.size) := by
    have hr6 := X6.out.1.2.1
    have hn : ¬ F w6.heap.size := fun hf => by have := hr6.lt _ hf; omega
    have hlt : ∀ {q : Nat} {o : Obj}, w6.heap[q]? = some o → q ≠ w6.heap.size := fun h e => by have := (Array.getElem?_eq_some_iff.1 h).1; omega
    refine ⟨⟨⟨below_to X6.out.1.1.1.1 hb7, ?_, ?_⟩, ⟨X6.out.2.1.below hb7, fun k hk hc => hc.elim (X6.out.2.2 k hk) (fun e => by have := X6.out.2.1.lt k hk; omega)⟩, ?_⟩, hr6.below hb7, heap_alloc_new _ _, hn⟩
    · intro x hx
      simp only [List.mem_cons, List.not_mem_nil, or_false] at hx
      rcases hx with rfl | rfl
      · exact ⟨below_box X6.out.1.1.2 hb7, fun hc => hc.elim HB.out.2.2 (hlt X6.out.1.1.2)⟩
      · exact ⟨below_box X6.out.1.1.1.2 hb7, fun hc => hc.elim (fun hf => by have := HB.out.2.1 _ hf; omega) (hlt X6.out.1.1.1.2)⟩
    · intro k hk
      rcases hk with hk | hk
      · have := HB.out.2.1 k hk; omega
      · rw [hk]; exact X6.out.1.1.1.1.size
    · refine ref_or (href.below hb7) (fun z hz h0 => ref_ne (href.below hb7) (heap_alloc_new _ _) _ rfl not_byte_word hz h0)
  have HX : Hid ((∀ q, rget bs n q = M q) ∧ Rng bs n 8192 ∧ n ≤ 12000 ∧ (∀ a, M a ≤ 255)) := ⟨hgt, hrng, hnb, X6.out.1.2.1.le⟩
  clear X6 hb7 hnb href hgt hrng HB
  generalize w6.alloc (.cells #[.int .i64 s, .int .u64 (D : Int), .int .u64 (A : Int), .int .u64 (U : Int), .bool rd, .int .u16 (fe : Int), .int .u16 (us : Int), .bool ev, .bool al] 40) = w7 at *
  generalize w6.heap.size = qb at *
  obtain ⟨hn, hi, l, ta, tl, b, e, f1, hmx, hhn, hll, hf1, KF, KD⟩ := fetch_same (s := s) (rd := rd) (al := al) HX.out.2.2.2 HU.out.1 HU.out.2.1 HU.out.2.2 HFU.out.1
  obtain ⟨L, hL⟩ : ∃ L, l.length = L := ⟨_, rfl⟩
  rw [hL] at KF KD
  have HL : Hid (l.length = L ∧ l.length ≤ 1000 ∧ f1 ≤ 65535 ∧ us ≤ 65535 ∧ hn ≤ 65535) := ⟨hL, hll, hf1, HFU.out.2, hhn⟩
  have HF : Hid (Calls Tryz.prog 16 #[.pointer (some ⟨qb, 0, none⟩), .pointer (some ⟨rb, 0, none⟩)] w7 fun r w' => ∃ a1 c1, r = .returned (.tuple #[.agg #[.int .u16 (hn : Int), .slice a1 L c1, .int .u64 (ta : Int), .int .u64 (tl : Int)], .bool b, .int .i64 e]) ∧ SegIn w7.heap.size w' (.slice a1 L c1) l ∧ w'.heap[qb]? = some (.cells #[.int .i64 s, .int .u64 (D : Int), .int .u64 (A : Int), .int .u64 (U : Int), .bool rd, .int .u16 (f1 : Int), .int .u16 (us : Int), .bool ev, .bool al] 40 (0, 0)) ∧ Step (fun k => k = qb) w7 (fun k => k = qb) w') := KF w7 F rb 12000 qb us ev X7.out.2.1 X7.out.2.2.1 X7.out.2.2.2
  have HD : Hid (∀ V G, RefIn G V (.slice a n c) n bs → Calls Tryz.prog 17 #[.agg #[.int .u64 8192, .slice a n c], .agg #[.int .i64 s, .int .u64 (D : Int), .int .u64 (A : Int), .int .u64 (U : Int), .bool rd, .int .i64 (fe : Int), .int .i64 (us : Int), .bool ev, .bool al]] V fun r w' => ∃ a2 c2, r = .returned (.tuple #[.agg #[.int .i64 s, .int .u64 (D : Int), .int .u64 (A : Int), .int .u64 (U : Int), .bool rd, .int .i64 (f1 : Int), .int .i64 (us : Int), .bool ev, .bool al], .int .i64 hi, .agg #[.slice a2 L c2, .int .u64 (ta : Int), .int .u64 (tl : Int)], .bool b, .int .i64 e]) ∧ SegIn V.heap.size w' (.slice a2 L c2) l ∧ Below V.heap.size V w') := fun V G hG => KD V G a n c bs us ev hG HX.out.1 (by have := HX.out.2.2.1; omega)
  have emx : max hi 0 = (hn : Int) := hmx
  clear KF KD hL hll hf1 hhn hmx HU HW
  go_upto_region 9 with (go_at_call 16; refine (HF.out).mono ?_; rintro r w8 ⟨a1, c1, rfl, hs8, hq8, hst8⟩; have X8 : Hid (Ss W w8 (fun k => F k ∨ k = qb) [(p, (.cells #[.int .u64 8192, .slice a n c] 33 (0, 0))), (W.heap.size, (.cells #[.int .i64 s, .int .u64 (D : Int), .int .u64 (A : Int), .int .u64 (U : Int), .bool rd, .int .i64 (fe : Int), .int .i64 (us : Int), .bool ev, .bool al] 27 (0, 0)))] rb2 F2 M a n c bs ∧ RamAt w8 F rb 8192 12000 (.pointer none) M ∧ w8.heap[qb]? = some (.cells #[.int .i64 s, .int .u64 (D : Int), .int .u64 (A : Int), .int .u64 (U : Int), .bool rd, .int .u16 (f1 : Int), .int .u16 (us : Int), .bool ev, .bool al] 40 (0, 0)) ∧ ¬ F qb ∧ SegIn w7.heap.size w8 (.slice a1 L c1) l) := ⟨X7.out.1.step (step_orR hst8), ram_q X7.out.2.1 hst8 X7.out.2.2.2, hq8, X7.out.2.2.2, hs8⟩; clear hs8 hq8 hst8 HF)
  have hb9 : Below w8.heap.size w8 (w8.alloc (.cells #[.int .u16 (hn : Int), .slice a1 L c1, .int .u64 (ta : Int), .int .u64 (tl : Int)] 61)) := one_box _ _
  have X9 : Hid (Ss W (w8.alloc (.cells #[.int .u16 (hn : Int), .slice a1 L c1, .int .u64 (ta : Int), .int .u64 (tl : Int)] 61)) (fun k => F k ∨ k = qb) ((w8.heap.size, (.cells #[.int .u16 (hn : Int), .slice a1 L c1, .int .u64 (ta : Int), .int .u64 (tl : Int)] 61 (0, 0))) :: [(p, (.cells #[.int .u64 8192, .slice a n c] 33 (0, 0))), (W.heap.size, (.cells #[.int .i64 s, .int .u64 (D : Int), .int .u64 (A : Int), .int .u64 (U : Int), .bool rd, .int .i64 (fe : Int), .int .i64 (us : Int), .bool ev, .bool al] 27 (0, 0)))]) rb2 F2 M a n c bs ∧ RamAt (w8.alloc (.cells #[.int .u16 (hn : Int), .slice a1 L c1, .int .u64 (ta : Int), .int .u64 (tl : Int)] 61)) F rb 8192 12000 (.pointer none) M ∧ (w8.alloc (.cells #[.int .u16 (hn : Int), .slice a1 L c1, .int .u64 (ta : Int), .int .u64 (tl : Int)] 61)).heap[qb]? = some (.cells #[.int .i64 s, .int .u64 (D : Int), .int .u64 (A : Int), .int .u64 (U : Int), .bool rd, .int .u16 (f1 : Int), .int .u16 (us : Int), .bool ev, .bool al] 40 (0, 0)) ∧ ¬ F qb ∧ SegIn 0 (w8.alloc (.cells #[.int .u16 (hn : Int), .slice a1 L c1, .int .u64 (ta : Int), .int .u64 (tl : Int)] 61)) (.slice a1 L c1) l) := by
    obtain ⟨x1, x2, x3, x4, x5⟩ := X8.out
    exact ⟨(x1.below hb9).add (heap_alloc_new _ _) (fun hc => hc.elim (fun hf => by have := x2.lt _ hf; omega) (fun hq => by have := (Array.getElem?_eq_some_iff.1 x3).1; omega)), x2.below hb9, below_box x3 hb9, x4, seg_down (x5.kept (fun g hg => hb9.block g (x5.lt g hg).2))⟩
  clear X8 X7 hb9
  generalize w8.alloc (.cells #[.int .u16 (hn : Int), .slice a1 L c1, .int .u64 (ta : Int), .int .u64 (tl : Int)] 61) = w9 at *
  generalize w8.heap.size = p9 at *
  obtain ⟨c0, c1', c2, c3, c4, c5, c6, c7, c8⟩ := box9_facts (X9.out.1.at (q := W.heap.size) (o := (.cells #[.int .i64 s, .int .u64 (D : Int), .int .u64 (A : Int), .int .u64 (U : Int), .bool rd, .int .i64 (fe : Int), .int .i64 (us : Int), .bool ev, .bool al] 27 (0, 0))) (by simp))
  obtain ⟨r0, r1, _, _⟩ := box_facts (X9.out.1.at (q := p) (o := (.cells #[.int .u64 8192, .slice a n c] 33 (0, 0))) (by simp))
  go_upto_region 10 with (go_at_call 17; refine (HD.out _ _ X9.out.1.2.2).mono ?_; rintro r w10 ⟨a2, c2p, rfl, hs10, hb10⟩; have X10 : Hid (Ss W w10 (fun k => F k ∨ k = qb) ((p9, (.cells #[.int .u16 (hn : Int), .slice a1 L c1, .int .u64 (ta : Int), .int .u64 (tl : Int)] 61 (0, 0))) :: [(p, (.cells #[.int .u64 8192, .slice a n c] 33 (0, 0))), (W.heap.size, (.cells #[.int .i64 s, .int .u64 (D : Int), .int .u64 (A : Int), .int .u64 (U : Int), .bool rd, .int .i64 (fe : Int), .int .i64 (us : Int), .bool ev, .bool al] 27 (0, 0)))]) rb2 F2 M a n c bs ∧ RamAt w10 F rb 8192 12000 (.pointer none) M ∧ w10.heap[qb]? = some (.cells #[.int .i64 s, .int .u64 (D : Int), .int .u64 (A : Int), .int .u64 (U : Int), .bool rd, .int .u16 (f1 : Int), .int .u16 (us : Int), .bool ev, .bool al] 40 (0, 0)) ∧ ¬ F qb ∧ SegIn 0 w10 (.slice a1 L c1) l ∧ SegIn 0 w10 (.slice a2 L c2p) l) := ⟨X9.out.1.below hb10, X9.out.2.1.below hb10, below_box X9.out.2.2.1 hb10, X9.out.2.2.2.1, X9.out.2.2.2.2.kept (fun g hg => hb10.block g (X9.out.2.2.2.2.lt g hg).2), seg_down hs10⟩; clear hs10 hb10 X9 HD c0 c1' c2 c3 c4 c5 c6 c7 c8 r0 r1)
  have hb11 : Below w10.heap.size w10 ((w10.alloc (.cells #[.int .i64 s, .int .u64 (D : Int), .int .u64 (A : Int), .int .u64 (U : Int), .bool rd, .int .i64 (f1 : Int), .int .i64 (us : Int), .bool ev, .bool al] 27)).alloc (.cells #[.slice a2 L c2p, .int .u64 (ta : Int), .int .u64 (tl : Int)] 64)) := ((Below.refl _ _).alloc (Nat.le_refl _) _).alloc (by simp) _
  have h11 := two_in w10 (.cells #[.int .i64 s, .int .u64 (D : Int), .int .u64 (A : Int), .int .u64 (U : Int), .bool rd, .int .i64 (f1 : Int), .int .i64 (us : Int), .bool ev, .bool al] 27) (.cells #[.slice a2 L c2p, .int .u64 (ta : Int), .int .u64 (tl : Int)] 64)
  have X11 : Hid (Ss W ((w10.alloc (.cells #[.int .i64 s, .int .u64 (D : Int), .int .u64 (A : Int), .int .u64 (U : Int), .bool rd, .int .i64 (f1 : Int), .int .i64 (us : Int), .bool ev, .bool al] 27)).alloc (.cells #[.slice a2 L c2p, .int .u64 (ta : Int), .int .u64 (tl : Int)] 64)) (fun k => F k ∨ k = qb) ((w10.heap.size + 1, (.cells #[.slice a2 L c2p, .int .u64 (ta : Int), .int .u64 (tl : Int)] 64 (0, 0))) :: (w10.heap.size, (.cells #[.int .i64 s, .int .u64 (D : Int), .int .u64 (A : Int), .int .u64 (U : Int), .bool rd, .int .i64 (f1 : Int), .int .i64 (us : Int), .bool ev, .bool al] 27 (0, 0))) :: (p9, (.cells #[.int .u16 (hn : Int), .slice a1 L c1, .int .u64 (ta : Int), .int .u64 (tl : Int)] 61 (0, 0))) :: [(p, (.cells #[.int .u64 8192, .slice a n c] 33 (0, 0))), (W.heap.size, (.cells #[.int .i64 s, .int .u64 (D : Int), .int .u64 (A : Int), .int .u64 (U : Int), .bool rd, .int .i64 (fe : Int), .int .i64 (us : Int), .bool ev, .bool al] 27 (0, 0)))]) rb2 F2 M a n c bs ∧ RamAt ((w10.alloc (.cells #[.int .i64 s, .int .u64 (D : Int), .int .u64 (A : Int), .int .u64 (U : Int), .bool rd, .int .i64 (f1 : Int), .int .i64 (us : Int), .bool ev, .bool al] 27)).alloc (.cells #[.slice a2 L c2p, .int .u64 (ta : Int), .int .u64 (tl : Int)] 64)) F rb 8192 12000 (.pointer none) M ∧ ((w10.alloc (.cells #[.int .i64 s, .int .u64 (D : Int), .int .u64 (A : Int), .int .u64 (U : Int), .bool rd, .int .i64 (f1 : Int), .int .i64 (us : Int), .bool ev, .bool al] 27)).alloc (.cells #[.slice a2 L c2p, .int .u64 (ta : Int), .int .u64 (tl : Int)] 64)).heap[qb]? = some (.cells #[.int .i64 s, .int .u64 (D : Int), .int .u64 (A : Int), .int .u64 (U : Int), .bool rd, .int .u16 (f1 : Int), .int .u16 (us : Int), .bool ev, .bool al] 40 (0, 0)) ∧ ¬ F qb ∧ SegIn 0 ((w10.alloc (.cells #[.int .i64 s, .int .u64 (D : Int), .int .u64 (A : Int), .int .u64 (U : Int), .bool rd, .int .i64 (f1 : Int), .int .i64 (us : Int), .bool ev, .bool al] 27)).alloc (.cells #[.slice a2 L c2p, .int .u64 (ta : Int), .int .u64 (tl : Int)] 64)) (.slice a1 L c1) l ∧ SegIn 0 ((w10.alloc (.cells #[.int .i64 s, .int .u64 (D : Int), .int .u64 (A : Int), .int .u64 (U : Int), .bool rd, .int .i64 (f1 : Int), .int .i64 (us : Int), .bool ev, .bool al] 27)).alloc (.cells #[.slice a2 L c2p, .int .u64 (ta : Int), .int .u64 (tl : Int)] 64)) (.slice a2 L c2p) l) := by
    obtain ⟨x1, x2, x3, x4, x5, x6⟩ := X10.out
    have hnew : ∀ q, w10.heap.size ≤ q → ¬ (F q ∨ q = qb) := fun q hq hc => hc.elim (fun hf => by have := x2.lt _ hf; omega) (fun he => by have := (Array.getElem?_eq_some_iff.1 x3).1; omega)
    exact ⟨((x1.below hb11).add h11.1 (hnew _ (Nat.le_refl _))).add h11.2 (hnew _ (by omega)), x2.below hb11, below_box x3 hb11, x4, x5.kept (fun g hg => hb11.block g (x5.lt g hg).2), x6.kept (fun g hg => hb11.block g (x6.lt g hg).2)⟩
  clear X10 hb11 h11
  generalize (w10.alloc (.cells #[.int .i64 s, .int .u64 (D : Int), .int .u64 (A : Int), .int .u64 (U : Int), .bool rd, .int .i64 (f1 : Int), .int .i64 (us : Int), .bool ev, .bool al] 27)).alloc (.cells #[.slice a2 L c2p, .int .u64 (ta : Int), .int .u64 (tl : Int)] 64) = w11 at *
  obtain ⟨p14, hp14⟩ : ∃ p14, w10.heap.size + 1 = p14 := ⟨_, rfl⟩
  rw [hp14] at X11 ⊢
  clear hp14
  generalize w10.heap.size = p12 at *
  have Xd : Hid (Ss W w11.drew (fun k => F k ∨ k = qb) ((p14, (.cells #[.slice a2 L c2p, .int .u64 (ta : Int), .int .u64 (tl : Int)] 64 (0, 0))) :: (p12, (.cells #[.int .i64 s, .int .u64 (D : Int), .int .u64 (A : Int), .int .u64 (U : Int), .bool rd, .int .i64 (f1 : Int), .int .i64 (us : Int), .bool ev, .bool al] 27 (0, 0))) :: (p9, (.cells #[.int .u16 (hn : Int), .slice a1 L c1, .int .u64 (ta : Int), .int .u64 (tl : Int)] 61 (0, 0))) :: [(p, (.cells #[.int .u64 8192, .slice a n c] 33 (0, 0))), (W.heap.size, (.cells #[.int .i64 s, .int .u64 (D : Int), .int .u64 (A : Int), .int .u64 (U : Int), .bool rd, .int .i64 (fe : Int), .int .i64 (us : Int), .bool ev, .bool al] 27 (0, 0)))]) rb2 F2 M a n c bs ∧ RamAt w11.drew F rb 8192 12000 (.pointer none) M ∧ w11.drew.heap[qb]? = some (.cells #[.int .i64 s, .int .u64 (D : Int), .int .u64 (A : Int), .int .u64 (U : Int), .bool rd, .int .u16 (f1 : Int), .int .u16 (us : Int), .bool ev, .bool al] 40 (0, 0)) ∧ ¬ F qb ∧ SegIn 0 w11.drew (.slice a1 L c1) l ∧ SegIn 0 w11.drew (.slice a2 L c2p) l) := ⟨X11.out.1.below (Below.drew (Below.refl _ _)), X11.out.2.1.below (Below.drew (Below.refl _ _)), X11.out.2.2.1, X11.out.2.2.2.1, X11.out.2.2.2.2.1, X11.out.2.2.2.2.2⟩
  clear X11
  refine wp_region_held_drew (S := fun Z => Z.cell? ⟨qb, 0, none⟩ = some (.int .i64 s) ∧ Z.cell? ⟨qb, 1, none⟩ = some (.int .u64 (D : Int)) ∧ Z.cell? ⟨qb, 2, none⟩ = some (.int .u64 (A : Int)) ∧ Z.cell? ⟨qb, 3, none⟩ = some (.int .u64 (U : Int)) ∧ Z.cell? ⟨qb, 4, none⟩ = some (.bool rd) ∧ Z.cell? ⟨qb, 5, none⟩ = some (.int .u16 (f1 : Int)) ∧ Z.cell? ⟨qb, 6, none⟩ = some (.int .u16 (us : Int)) ∧ Z.cell? ⟨qb, 7, none⟩ = some (.bool ev) ∧ Z.cell? ⟨qb, 8, none⟩ = some (.bool al) ∧ Z.cell? ⟨p12, 0, none⟩ = some (.int .i64 s) ∧ Z.cell? ⟨p12, 1, none⟩ = some (.int .u64 (D : Int)) ∧ Z.cell? ⟨p12, 2, none⟩ = some (.int .u64 (A : Int)) ∧ Z.cell? ⟨p12, 3, none⟩ = some (.int .u64 (U : Int)) ∧ Z.cell? ⟨p12, 4, none⟩ = some (.bool rd) ∧ Z.cell? ⟨p12, 5, none⟩ = some (.int .i64 (f1 : Int)) ∧ Z.cell? ⟨p12, 6, none⟩ = some (.int .i64 (us : Int)) ∧ Z.cell? ⟨p12, 7, none⟩ = some (.bool ev) ∧ Z.cell? ⟨p12, 8, none⟩ = some (.bool al)) (by kernel_rfl) ⟨cellOf Xd.out.2.2.1 0 _ rfl, cellOf Xd.out.2.2.1 1 _ rfl, cellOf Xd.out.2.2.1 2 _ rfl, cellOf Xd.out.2.2.1 3 _ rfl, cellOf Xd.out.2.2.1 4 _ rfl, cellOf Xd.out.2.2.1 5 _ rfl, cellOf Xd.out.2.2.1 6 _ rfl, cellOf Xd.out.2.2.1 7 _ rfl, cellOf Xd.out.2.2.1 8 _ rfl, cellOf (Xd.out.1.at (q := p12) (o := .cells #[.int .i64 s, .int .u64 (D : Int), .int .u64 (A : Int), .int .u64 (U : Int), .bool rd, .int .i64 (f1 : Int), .int .i64 (us : Int), .bool ev, .bool al] 27 (0, 0)) (by simp)) 0 _ rfl, cellOf (Xd.out.1.at (q := p12) (o := .cells #[.int .i64 s, .int .u64 (D : Int), .int .u64 (A : Int), .int .u64 (U : Int), .bool rd, .int .i64 (f1 : Int), .int .i64 (us : Int), .bool ev, .bool al] 27 (0, 0)) (by simp)) 1 _ rfl, cellOf (Xd.out.1.at (q := p12) (o := .cells #[.int .i64 s, .int .u64 (D : Int), .int .u64 (A : Int), .int .u64 (U : Int), .bool rd, .int .i64 (f1 : Int), .int .i64 (us : Int), .bool ev, .bool al] 27 (0, 0)) (by simp)) 2 _ rfl, cellOf (Xd.out.1.at (q := p12) (o := .cells #[.int .i64 s, .int .u64 (D : Int), .int .u64 (A : Int), .int .u64 (U : Int), .bool rd, .int .i64 (f1 : Int), .int .i64 (us : Int), .bool ev, .bool al] 27 (0, 0)) (by simp)) 3 _ rfl, cellOf (Xd.out.1.at (q := p12) (o := .cells #[.int .i64 s, .int .u64 (D : Int), .int .u64 (A : Int), .int .u64 (U : Int), .bool rd, .int .i64 (f1 : Int), .int .i64 (us : Int), .bool ev, .bool al] 27 (0, 0)) (by simp)) 4 _ rfl, cellOf (Xd.out.1.at (q := p12) (o := .cells #[.int .i64 s, .int .u64 (D : Int), .int .u64 (A : Int), .int .u64 (U : Int), .bool rd, .int .i64 (f1 : Int), .int .i64 (us : Int), .bool ev, .bool al] 27 (0, 0)) (by simp)) 5 _ rfl, cellOf (Xd.out.1.at (q := p12) (o := .cells #[.int .i64 s, .int .u64 (D : Int), .int .u64 (A : Int), .int .u64 (U : Int), .bool rd, .int .i64 (f1 : Int), .int .i64 (us : Int), .bool ev, .bool al] 27 (0, 0)) (by simp)) 6 _ rfl, cellOf (Xd.out.1.at (q := p12) (o := .cells #[.int .i64 s, .int .u64 (D : Int), .int .u64 (A : Int), .int .u64 (U : Int), .bool rd, .int .i64 (f1 : Int), .int .i64 (us : Int), .bool ev, .bool al] 27 (0, 0)) (by simp)) 7 _ rfl, cellOf (Xd.out.1.at (q := p12) (o := .cells #[.int .i64 s, .int .u64 (D : Int), .int .u64 (A : Int), .int .u64 (U : Int), .bool rd, .int .i64 (f1 : Int), .int .i64 (us : Int), .bool ev, .bool al] 27 (0, 0)) (by simp)) 8 _ rfl⟩ ?_
  intro hS
  generalize w11.drew = wd at *
  refine wpAnyH_take (i := 0) (v := ?_) rfl (by kernel_rfl) (by kernel_rfl) (by kernel_rfl) (fun _ _ _ h => h) (Or.inl ⟨by kernel_rfl, ?_⟩) hS ?_
  rotate_left
  · intro w hSw; (try dsimp only at hSw); go_simp; try (with_reducible rfl)
  (try simp only [Act.put, List.getElem_toArray, List.getElem_cons_succ, List.getElem_cons_zero, List.setIfInBounds_toArray, List.set_cons_zero, List.set_cons_succ])
  refine wpAnyH_take (i := 1) (v := ?_) rfl (by kernel_rfl) (by kernel_rfl) (by kernel_rfl) (fun _ _ _ h => h) (Or.inl ⟨by kernel_rfl, ?_⟩) hS ?_
  rotate_left
  · intro w hSw; (try dsimp only at hSw); go_simp; try (with_reducible rfl)
  (try simp only [Act.put, List.getElem_toArray, List.getElem_cons_succ, List.getElem_cons_zero, List.setIfInBounds_toArray, List.set_cons_zero, List.set_cons_succ])
  refine wpAnyH_take (i := 2) (v := ?_) rfl (by kernel_rfl) (by kernel_rfl) (by kernel_rfl) (fun _ _ _ h => h) (Or.inl ⟨by kernel_rfl, ?_⟩) hS ?_
  rotate_left
  · intro w hSw; (try dsimp only at hSw); go_simp; try (with_reducible rfl)
  (try simp only [Act.put, List.getElem_toArray, List.getElem_cons_succ, List.getElem_cons_zero, List.setIfInBounds_toArray, List.set_cons_zero, List.set_cons_succ])
  refine wpAnyH_take (i := 3) (v := ?_) rfl (by kernel_rfl) (by kernel_rfl) (by kernel_rfl) (fun _ _ _ h => h) (Or.inl ⟨by kernel_rfl, ?_⟩) hS ?_
  rotate_left
  · intro w hSw; (try dsimp only at hSw); go_simp; try (with_reducible rfl)
  (try simp only [Act.put, List.getElem_toArray, List.getElem_cons_succ, List.getElem_cons_zero, List.setIfInBounds_toArray, List.set_cons_zero, List.set_cons_succ])
  refine wpAnyH_take (i := 4) (v := ?_) rfl (by kernel_rfl) (by kernel_rfl) (by kernel_rfl) (fun _ _ _ h => h) (Or.inl ⟨by kernel_rfl, ?_⟩) hS ?_
  rotate_left
  · intro w hSw; (try dsimp only at hSw); go_simp; try (with_reducible rfl)
  (try simp only [Act.put, List.getElem_toArray, List.getElem_cons_succ, List.getElem_cons_zero, List.setIfInBounds_toArray, List.set_cons_zero, List.set_cons_succ])
  refine wpAnyH_take (i := 5) (v := ?_) rfl (by kernel_rfl) (by kernel_rfl) (by kernel_rfl) (fun _ _ _ h => h) (Or.inl ⟨by kernel_rfl, ?_⟩) hS ?_
  rotate_left
  · intro w hSw; (try dsimp only at hSw); go_simp; try (with_reducible rfl)
  (try simp only [Act.put, List.getElem_toArray, List.getElem_cons_succ, List.getElem_cons_zero, List.setIfInBounds_toArray, List.set_cons_zero, List.set_cons_succ])
  refine wpAnyH_take (i := 6) (v := ?_) rfl (by kernel_rfl) (by kernel_rfl) (by kernel_rfl) (fun _ _ _ h => h) (Or.inl ⟨by kernel_rfl, ?_⟩) hS ?_
  rotate_left
  · intro w hSw; (try dsimp only at hSw); go_simp; try (with_reducible rfl)
  (try simp only [Act.put, List.getElem_toArray, List.getElem_cons_succ, List.getElem_cons_zero, List.setIfInBounds_toArray, List.set_cons_zero, List.set_cons_succ])
  refine wpAnyH_take (i := 7) (v := ?_) rfl (by kernel_rfl) (by kernel_rfl) (by kernel_rfl) (fun _ _ _ h => h) (Or.inl ⟨by kernel_rfl, ?_⟩) hS ?_
  rotate_left
  · intro w hSw; (try dsimp only at hSw); go_simp; try (with_reducible rfl)
  (try simp only [Act.put, List.getElem_toArray, List.getElem_cons_succ, List.getElem_cons_zero, List.setIfInBounds_toArray, List.set_cons_zero, List.set_cons_succ])
  refine wpAnyH_take (i := 8) (v := ?_) rfl (by kernel_rfl) (by kernel_rfl) (by kernel_rfl) (fun _ _ _ h => h) (Or.inl ⟨by kernel_rfl, ?_⟩) hS ?_
  rotate_left
  · intro w hSw; (try dsimp only at hSw); go_simp; try (with_reducible rfl)
  (try simp only [Act.put, List.getElem_toArray, List.getElem_cons_succ, List.getElem_cons_zero, List.setIfInBounds_toArray, List.set_cons_zero, List.set_cons_succ])
  refine wpAnyH_take (i := 9) (v := ?_) rfl (by kernel_rfl) (by kernel_rfl) (by kernel_rfl) (fun _ _ _ h => h) (Or.inl ⟨by kernel_rfl, ?_⟩) hS ?_
  rotate_left
  · intro w hSw; (try dsimp only at hSw); go_simp; try (with_reducible rfl)
  (try simp only [Act.put, List.getElem_toArray, List.getElem_cons_succ, List.getElem_cons_zero, List.setIfInBounds_toArray, List.set_cons_zero, List.set_cons_succ])
  refine wpAnyH_take (i := 10) (v := ?_) rfl (by kernel_rfl) (by kernel_rfl) (by kernel_rfl) (fun _ _ _ h => h) (Or.inl ⟨by kernel_rfl, ?_⟩) hS ?_
  rotate_left
  · intro w hSw; (try dsimp only at hSw); go_simp; try (with_reducible rfl)
  (try simp only [Act.put, List.getElem_toArray, List.getElem_cons_succ, List.getElem_cons_zero, List.setIfInBounds_toArray, List.set_cons_zero, List.set_cons_succ])
  refine wpAnyH_ready (rs := [11]) (by kernel_rfl) (by simp) ?_
  refine AllReadyH.cons rfl (fun K1 hK1 => ?_) AllReadyH.nil
  go_simp
  refine (lawOf_any HL.out.2.2.1 HL.out.2.2.2.1).mono ?_
  rintro r w12 ⟨rfl, hb12⟩
  have X12 : Hid (Ss W w12 (fun k => F k ∨ k = qb) ((p14, (.cells #[.slice a2 L c2p, .int .u64 (ta : Int), .int .u64 (tl : Int)] 64 (0, 0))) :: (p12, (.cells #[.int .i64 s, .int .u64 (D : Int), .int .u64 (A : Int), .int .u64 (U : Int), .bool rd, .int .i64 (f1 : Int), .int .i64 (us : Int), .bool ev, .bool al] 27 (0, 0))) :: (p9, (.cells #[.int .u16 (hn : Int), .slice a1 L c1, .int .u64 (ta : Int), .int .u64 (tl : Int)] 61 (0, 0))) :: [(p, (.cells #[.int .u64 8192, .slice a n c] 33 (0, 0))), (W.heap.size, (.cells #[.int .i64 s, .int .u64 (D : Int), .int .u64 (A : Int), .int .u64 (U : Int), .bool rd, .int .i64 (fe : Int), .int .i64 (us : Int), .bool ev, .bool al] 27 (0, 0)))]) rb2 F2 M a n c bs ∧ RamAt w12 F rb 8192 12000 (.pointer none) M ∧ w12.heap[qb]? = some (.cells #[.int .i64 s, .int .u64 (D : Int), .int .u64 (A : Int), .int .u64 (U : Int), .bool rd, .int .u16 (f1 : Int), .int .u16 (us : Int), .bool ev, .bool al] 40 (0, 0)) ∧ ¬ F qb ∧ SegIn 0 w12 (.slice a1 L c1) l ∧ SegIn 0 w12 (.slice a2 L c2p) l) := ⟨Xd.out.1.below hb12, Xd.out.2.1.below hb12, below_box Xd.out.2.2.1 hb12, Xd.out.2.2.2.1, Xd.out.2.2.2.2.1.kept (fun g hg => hb12.block g (Xd.out.2.2.2.2.1.lt g hg).2), Xd.out.2.2.2.2.2.kept (fun g hg => hb12.block g (Xd.out.2.2.2.2.2.lt g hg).2)⟩
  clear hb12 Xd
  refine hK1.out _ _ ⟨cellOf X12.out.2.2.1 0 _ rfl, cellOf X12.out.2.2.1 1 _ rfl, cellOf X12.out.2.2.1 2 _ rfl, cellOf X12.out.2.2.1 3 _ rfl, cellOf X12.out.2.2.1 4 _ rfl, cellOf X12.out.2.2.1 5 _ rfl, cellOf X12.out.2.2.1 6 _ rfl, cellOf X12.out.2.2.1 7 _ rfl, cellOf X12.out.2.2.1 8 _ rfl, cellOf (X12.out.1.at (q := p12) (o := .cells #[.int .i64 s, .int .u64 (D : Int), .int .u64 (A : Int), .int .u64 (U : Int), .bool rd, .int .i64 (f1 : Int), .int .i64 (us : Int), .bool ev, .bool al] 27 (0, 0)) (by simp)) 0 _ rfl, cellOf (X12.out.1.at (q := p12) (o := .cells #[.int .i64 s, .int .u64 (D : Int), .int .u64 (A : Int), .int .u64 (U : Int), .bool rd, .int .i64 (f1 : Int), .int .i64 (us : Int), .bool ev, .bool al] 27 (0, 0)) (by simp)) 1 _ rfl, cellOf (X12.out.1.at (q := p12) (o := .cells #[.int .i64 s, .int .u64 (D : Int), .int .u64 (A : Int), .int .u64 (U : Int), .bool rd, .int .i64 (f1 : Int), .int .i64 (us : Int), .bool ev, .bool al] 27 (0, 0)) (by simp)) 2 _ rfl, cellOf (X12.out.1.at (q := p12) (o := .cells #[.int .i64 s, .int .u64 (D : Int), .int .u64 (A : Int), .int .u64 (U : Int), .bool rd, .int .i64 (f1 : Int), .int .i64 (us : Int), .bool ev, .bool al] 27 (0, 0)) (by simp)) 3 _ rfl, cellOf (X12.out.1.at (q := p12) (o := .cells #[.int .i64 s, .int .u64 (D : Int), .int .u64 (A : Int), .int .u64 (U : Int), .bool rd, .int .i64 (f1 : Int), .int .i64 (us : Int), .bool ev, .bool al] 27 (0, 0)) (by simp)) 4 _ rfl, cellOf (X12.out.1.at (q := p12) (o := .cells #[.int .i64 s, .int .u64 (D : Int), .int .u64 (A : Int), .int .u64 (U : Int), .bool rd, .int .i64 (f1 : Int), .int .i64 (us : Int), .bool ev, .bool al] 27 (0, 0)) (by simp)) 5 _ rfl, cellOf (X12.out.1.at (q := p12) (o := .cells #[.int .i64 s, .int .u64 (D : Int), .int .u64 (A : Int), .int .u64 (U : Int), .bool rd, .int .i64 (f1 : Int), .int .i64 (us : Int), .bool ev, .bool al] 27 (0, 0)) (by simp)) 6 _ rfl, cellOf (X12.out.1.at (q := p12) (o := .cells #[.int .i64 s, .int .u64 (D : Int), .int .u64 (A : Int), .int .u64 (U : Int), .bool rd, .int .i64 (f1 : Int), .int .i64 (us : Int), .bool ev, .bool al] 27 (0, 0)) (by simp)) 7 _ rfl, cellOf (X12.out.1.at (q := p12) (o := .cells #[.int .i64 s, .int .u64 (D : Int), .int .u64 (A : Int), .int .u64 (U : Int), .bool rd, .int .i64 (f1 : Int), .int .i64 (us : Int), .bool ev, .bool al] 27 (0, 0)) (by simp)) 8 _ rfl⟩ (fun h12 => ?_)
  clear hK1 K1 hS
  (try simp only [Act.put, List.getElem_toArray, List.getElem_cons_succ, List.getElem_cons_zero, List.setIfInBounds_toArray, List.set_cons_zero, List.set_cons_succ])
  refine wpAnyH_take (i := 12) (v := ?_) rfl (by kernel_rfl) (by kernel_rfl) (by kernel_rfl) (fun _ _ _ h => h) (Or.inl ⟨by kernel_rfl, ?_⟩) h12 ?_
  rotate_left
  · intro w hSw; (try dsimp only at hSw); go_simp; try (with_reducible rfl)
  (try simp only [Act.put, List.getElem_toArray, List.getElem_cons_succ, List.getElem_cons_zero, List.setIfInBounds_toArray, List.set_cons_zero, List.set_cons_succ])
  refine wpAnyH_take (i := 13) (v := ?_) rfl (by kernel_rfl) (by kernel_rfl) (by kernel_rfl) (fun _ _ _ h => h) (Or.inl ⟨by kernel_rfl, ?_⟩) h12 ?_
  rotate_left
  · intro w hSw; (try dsimp only at hSw); go_simp; try (with_reducible rfl)
  (try simp only [Act.put, List.getElem_toArray, List.getElem_cons_succ, List.getElem_cons_zero, List.setIfInBounds_toArray, List.set_cons_zero, List.set_cons_succ])
  refine wpAnyH_take (i := 14) (v := ?_) rfl (by kernel_rfl) (by kernel_rfl) (by kernel_rfl) (fun _ _ _ h => h) (Or.inl ⟨by kernel_rfl, ?_⟩) h12 ?_
  rotate_left
  · intro w hSw; (try dsimp only at hSw); go_simp; try (with_reducible rfl)
  (try simp only [Act.put, List.getElem_toArray, List.getElem_cons_succ, List.getElem_cons_zero, List.setIfInBounds_toArray, List.set_cons_zero, List.set_cons_succ])
  refine wpAnyH_take (i := 15) (v := ?_) rfl (by kernel_rfl) (by kernel_rfl) (by kernel_rfl) (fun _ _ _ h => h) (Or.inl ⟨by kernel_rfl, ?_⟩) h12 ?_
  rotate_left
  · intro w hSw; (try dsimp only at hSw); go_simp; try (with_reducible rfl)
  (try simp only [Act.put, List.getElem_toArray, List.getElem_cons_succ, List.getElem_cons_zero, List.setIfInBounds_toArray, List.set_cons_zero, List.set_cons_succ])
  refine wpAnyH_take (i := 16) (v := ?_) rfl (by kernel_rfl) (by kernel_rfl) (by kernel_rfl) (fun _ _ _ h => h) (Or.inl ⟨by kernel_rfl, ?_⟩) h12 ?_
  rotate_left
  · intro w hSw; (try dsimp only at hSw); go_simp; try (with_reducible rfl)
  (try simp only [Act.put, List.getElem_toArray, List.getElem_cons_succ, List.getElem_cons_zero, List.setIfInBounds_toArray, List.set_cons_zero, List.set_cons_succ])
  refine wpAnyH_ready (rs := [17]) (by kernel_rfl) (by simp) ?_
  refine AllReadyH.cons rfl (fun K1 hK1 => ?_) AllReadyH.nil
  go_simp
  refine (same_any X12.out.2.1 X12.out.1.2.1.1 (by omega) (by omega) (by omega) 0 0 apart_self true ⟨fun _ _ => rfl, fun _ => rfl⟩).mono ?_
  rintro r w13 ⟨rfl, hb13⟩
  have X13 : Hid (Ss W w13 (fun k => F k ∨ k = qb) ((p14, (.cells #[.slice a2 L c2p, .int .u64 (ta : Int), .int .u64 (tl : Int)] 64 (0, 0))) :: (p12, (.cells #[.int .i64 s, .int .u64 (D : Int), .int .u64 (A : Int), .int .u64 (U : Int), .bool rd, .int .i64 (f1 : Int), .int .i64 (us : Int), .bool ev, .bool al] 27 (0, 0))) :: (p9, (.cells #[.int .u16 (hn : Int), .slice a1 L c1, .int .u64 (ta : Int), .int .u64 (tl : Int)] 61 (0, 0))) :: [(p, (.cells #[.int .u64 8192, .slice a n c] 33 (0, 0))), (W.heap.size, (.cells #[.int .i64 s, .int .u64 (D : Int), .int .u64 (A : Int), .int .u64 (U : Int), .bool rd, .int .i64 (fe : Int), .int .i64 (us : Int), .bool ev, .bool al] 27 (0, 0)))]) rb2 F2 M a n c bs ∧ RamAt w13 F rb 8192 12000 (.pointer none) M ∧ w13.heap[qb]? = some (.cells #[.int .i64 s, .int .u64 (D : Int), .int .u64 (A : Int), .int .u64 (U : Int), .bool rd, .int .u16 (f1 : Int), .int .u16 (us : Int), .bool ev, .bool al] 40 (0, 0)) ∧ ¬ F qb ∧ SegIn 0 w13 (.slice a1 L c1) l ∧ SegIn 0 w13 (.slice a2 L c2p) l) := ⟨X12.out.1.below hb13, X12.out.2.1.below hb13, below_box X12.out.2.2.1 hb13, X12.out.2.2.2.1, X12.out.2.2.2.2.1.kept (fun g hg => hb13.block g (X12.out.2.2.2.2.1.lt g hg).2), X12.out.2.2.2.2.2.kept (fun g hg => hb13.block g (X12.out.2.2.2.2.2.lt g hg).2)⟩
  clear hb13 X12
  refine hK1.out _ _ ⟨cellOf X13.out.2.2.1 0 _ rfl, cellOf X13.out.2.2.1 1 _ rfl, cellOf X13.out.2.2.1 2 _ rfl, cellOf X13.out.2.2.1 3 _ rfl, cellOf X13.out.2.2.1 4 _ rfl, cellOf X13.out.2.2.1 5 _ rfl, cellOf X13.out.2.2.1 6 _ rfl, cellOf X13.out.2.2.1 7 _ rfl, cellOf X13.out.2.2.1 8 _ rfl, cellOf (X13.out.1.at (q := p12) (o := .cells #[.int .i64 s, .int .u64 (D : Int), .int .u64 (A : Int), .int .u64 (U : Int), .bool rd, .int .i64 (f1 : Int), .int .i64 (us : Int), .bool ev, .bool al] 27 (0, 0)) (by simp)) 0 _ rfl, cellOf (X13.out.1.at (q := p12) (o := .cells #[.int .i64 s, .int .u64 (D : Int), .int .u64 (A : Int), .int .u64 (U : Int), .bool rd, .int .i64 (f1 : Int), .int .i64 (us : Int), .bool ev, .bool al] 27 (0, 0)) (by simp)) 1 _ rfl, cellOf (X13.out.1.at (q := p12) (o := .cells #[.int .i64 s, .int .u64 (D : Int), .int .u64 (A : Int), .int .u64 (U : Int), .bool rd, .int .i64 (f1 : Int), .int .i64 (us : Int), .bool ev, .bool al] 27 (0, 0)) (by simp)) 2 _ rfl, cellOf (X13.out.1.at (q := p12) (o := .cells #[.int .i64 s, .int .u64 (D : Int), .int .u64 (A : Int), .int .u64 (U : Int), .bool rd, .int .i64 (f1 : Int), .int .i64 (us : Int), .bool ev, .bool al] 27 (0, 0)) (by simp)) 3 _ rfl, cellOf (X13.out.1.at (q := p12) (o := .cells #[.int .i64 s, .int .u64 (D : Int), .int .u64 (A : Int), .int .u64 (U : Int), .bool rd, .int .i64 (f1 : Int), .int .i64 (us : Int), .bool ev, .bool al] 27 (0, 0)) (by simp)) 4 _ rfl, cellOf (X13.out.1.at (q := p12) (o := .cells #[.int .i64 s, .int .u64 (D : Int), .int .u64 (A : Int), .int .u64 (U : Int), .bool rd, .int .i64 (f1 : Int), .int .i64 (us : Int), .bool ev, .bool al] 27 (0, 0)) (by simp)) 5 _ rfl, cellOf (X13.out.1.at (q := p12) (o := .cells #[.int .i64 s, .int .u64 (D : Int), .int .u64 (A : Int), .int .u64 (U : Int), .bool rd, .int .i64 (f1 : Int), .int .i64 (us : Int), .bool ev, .bool al] 27 (0, 0)) (by simp)) 6 _ rfl, cellOf (X13.out.1.at (q := p12) (o := .cells #[.int .i64 s, .int .u64 (D : Int), .int .u64 (A : Int), .int .u64 (U : Int), .bool rd, .int .i64 (f1 : Int), .int .i64 (us : Int), .bool ev, .bool al] 27 (0, 0)) (by simp)) 7 _ rfl, cellOf (X13.out.1.at (q := p12) (o := .cells #[.int .i64 s, .int .u64 (D : Int), .int .u64 (A : Int), .int .u64 (U : Int), .bool rd, .int .i64 (f1 : Int), .int .i64 (us : Int), .bool ev, .bool al] 27 (0, 0)) (by simp)) 8 _ rfl⟩ (fun h13 => ?_)
  clear hK1 K1 h12
  (try simp only [Act.put, List.getElem_toArray, List.getElem_cons_succ, List.getElem_cons_zero, List.setIfInBounds_toArray, List.set_cons_zero, List.set_cons_succ])
  refine wpAnyH_take (i := 18) (v := ?_) rfl (by kernel_rfl) (by kernel_rfl) (by kernel_rfl) (fun _ _ _ h => h) (Or.inl ⟨by kernel_rfl, ?_⟩) h13 ?_
  rotate_left
  · intro w hSw; (try dsimp only at hSw); go_simp; try (with_reducible rfl)
  (try simp only [Act.put, List.getElem_toArray, List.getElem_cons_succ, List.getElem_cons_zero, List.setIfInBounds_toArray, List.set_cons_zero, List.set_cons_succ])
  refine wpAnyH_take (i := 19) (v := ?_) rfl (by kernel_rfl) (by kernel_rfl) (by kernel_rfl) (fun _ _ _ h => h) (Or.inl ⟨by kernel_rfl, ?_⟩) h13 ?_
  rotate_left
  · intro w hSw; (try dsimp only at hSw); go_simp; try (with_reducible rfl)
  (try simp only [Act.put, List.getElem_toArray, List.getElem_cons_succ, List.getElem_cons_zero, List.setIfInBounds_toArray, List.set_cons_zero, List.set_cons_succ])
  refine wpAnyH_done (by kernel_rfl) ?_ _
  clear h13
  obtain ⟨i0, i1, i2, i3⟩ := box4_facts (X13.out.1.at (q := p9) (o := .cells #[.int .u16 (hn : Int), .slice a1 L c1, .int .u64 (ta : Int), .int .u64 (tl : Int)] 61 (0, 0)) (by simp))
  obtain ⟨m0, m1, m2⟩ := box3_facts (X13.out.1.at (q := p14) (o := .cells #[.slice a2 L c2p, .int .u64 (ta : Int), .int .u64 (tl : Int)] 64 (0, 0)) (by simp))
  have eh : IntKind.i64.wrap (hn : Int) = (hn : Int) := wrapRl hn (by have := HL.out.2.2.2.2; omega)
  have eq : ((hn : Int) == (hn : Int)) = true := by simp
  go_wp2_with (go_at_call 19; refine (same_chains X13.out.2.2.2.2.1 X13.out.2.2.2.2.2 HL.out.2.1 ta tl).mono ?_; rintro r w14 ⟨rfl, hb14⟩; have X14 : Hid (Below W.heap.size W w14) := below_to X13.out.1.1.1 hb14; clear hb14)
  go_ret
  exact ⟨rfl, X14.out⟩
end Go.Proofs.YtmjdnocilbnoaaaGreat
