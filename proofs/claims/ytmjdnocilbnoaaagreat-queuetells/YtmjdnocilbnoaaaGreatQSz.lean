/- QueueTells. -/
import Derived.Test.YtmjdnocilbnoaaaGreatZl
import Derived.Test.YtmjdnocilbnoaaaGreatZj
import Derived.Test.YtmjdnocilbnoaaaGreatZb
namespace Go.Proofs.YtmjdnocilbnoaaaGreat
open Go.RowKit Go.Maps
set_option linter.unusedVariables false
set_option linter.unusedSimpArgs false
set_option maxRecDepth 100000
theorem reset_any {w : World} {qb : Nat} {s : Int} {D A U : Nat} {rd ev al : Bool} {fe us : Nat} (hq : w.heap[qb]? = some (.cells #[.int .i64 s, .int .u64 (D : Int), .int .u64 (A : Int), .int .u64 (U : Int), .bool rd, .int .u16 (fe : Int), .int .u16 (us : Int), .bool ev, .bool al] 40 (0, 0))) : Calls Tryz.prog 27 #[.pointer (some ⟨qb, 0, none⟩)] w fun e w' => e = .returned (.tuple #[]) ∧ w'.heap[qb]? = some (.cells #[.int .i64 0, .int .u64 0, .int .u64 0, .int .u64 0, .bool false, .int .u16 0, .int .u16 0, .bool false, .bool false] 40 (0, 0)) ∧ Step (fun k => k = qb) w (fun k => k = qb) w' := by
  have X : Hid (w.heap[qb]? = some (.cells #[.int .i64 s, .int .u64 (D : Int), .int .u64 (A : Int), .int .u64 (U : Int), .bool rd, .int .u16 (fe : Int), .int .u16 (us : Int), .bool ev, .bool al] 40 (0, 0))) := hq
  clear hq
  go_enter Tryz.func27, Tryz.ntmps27
  go_upto_region 1 with fail
  refine wp_region_list ?_
  (refine wpList_step (fun KK hKK => ?_); go_simp; refine hKK _ _ ?_; clear hKK KK)
  (refine wpList_step (fun KK hKK => ?_); go_simp; refine hKK _ _ ?_; clear hKK KK)
  (refine wpList_step (fun KK hKK => ?_); go_simp; refine hKK _ _ ?_; clear hKK KK)
  refine wpList_store_row rfl 40 _ _ rfl qb #[.int .i64 0, .int .u64 0, .int .u64 0, .int .u64 0, .bool false, .int .u16 0, .int .u16 0, .bool false, .bool false] rfl rfl 40 #[.int .i64 s, .int .u64 (D : Int), .int .u64 (A : Int), .int .u64 (U : Int), .bool rd, .int .u16 (fe : Int), .int .u16 (us : Int), .bool ev, .bool al] X.out infoQ rfl (by simp [Value.oneCell']) ?_
  have Y : Hid ((w.setRow qb #[.int .i64 0, .int .u64 0, .int .u64 0, .int .u64 0, .bool false, .int .u16 0, .int .u16 0, .bool false, .bool false]).heap[qb]? = some (.cells #[.int .i64 0, .int .u64 0, .int .u64 0, .int .u64 0, .bool false, .int .u16 0, .int .u16 0, .bool false, .bool false] 40 (0, 0)) ∧ Step (fun k => k = qb) w (fun k => k = qb) (w.setRow qb #[.int .i64 0, .int .u64 0, .int .u64 0, .int .u64 0, .bool false, .int .u16 0, .int .u16 0, .bool false, .bool false])) := ⟨setRow_heap _ _ _ _ _ _ X.out, step_row _ _ _⟩
  clear X
  generalize w.setRow qb #[.int .i64 0, .int .u64 0, .int .u64 0, .int .u64 0, .bool false, .int .u16 0, .int .u16 0, .bool false, .bool false] = w9 at *
  go_wp2_with fail
  first | go_end0 | skip
  all_goals exact ⟨rfl, Y.out.1, Y.out.2⟩

set_option maxHeartbeats 16000000 in
theorem tells_core (W : World) (v : Value) (len : Nat) (ps : Nat → PutD) (hws : PutsIn W v len ps) (s : Int) (D A U : Nat) (rd : Bool) (fi ui : Int) (ev al : Bool) (hD : D < 18446744073709551616) (hA : A < 18446744073709551616) (hU : U < 18446744073709551616) (t0 t1 t2 : Nat) (ht1 : t1 ≤ 4294967295) : Calls Tryz.prog 5 #[v, .agg #[.int .i64 s, .int .u64 (D : Int), .int .u64 (A : Int), .int .u64 (U : Int), .bool rd, .int .i64 fi, .int .i64 ui, .bool ev, .bool al], .agg #[.int .u32 (t0 : Int), .int .u32 (t1 : Int), .int .u32 (t2 : Int)]] W fun e w' => e = .returned (.bool true) ∧ Below W.heap.size W w' := by
  have HT : Hid (t1 ≤ 4294967295) := ht1
  clear ht1
  have X0 : Hid (Below W.heap.size W ((W.alloc (.cells #[.int .i64 s, .int .u64 (D : Int), .int .u64 (A : Int), .int .u64 (U : Int), .bool rd, .int .i64 fi, .int .i64 ui, .bool ev, .bool al] 27)).alloc (.cells #[.int .u32 (t0 : Int), .int .u32 (t1 : Int), .int .u32 (t2 : Int)] 71)) ∧ ((W.alloc (.cells #[.int .i64 s, .int .u64 (D : Int), .int .u64 (A : Int), .int .u64 (U : Int), .bool rd, .int .i64 fi, .int .i64 ui, .bool ev, .bool al] 27)).alloc (.cells #[.int .u32 (t0 : Int), .int .u32 (t1 : Int), .int .u32 (t2 : Int)] 71)).heap[W.heap.size]? = some (.cells #[.int .i64 s, .int .u64 (D : Int), .int .u64 (A : Int), .int .u64 (U : Int), .bool rd, .int .i64 fi, .int .i64 ui, .bool ev, .bool al] 27 (0, 0)) ∧ ((W.alloc (.cells #[.int .i64 s, .int .u64 (D : Int), .int .u64 (A : Int), .int .u64 (U : Int), .bool rd, .int .i64 fi, .int .i64 ui, .bool ev, .bool al] 27)).alloc (.cells #[.int .u32 (t0 : Int), .int .u32 (t1 : Int), .int .u32 (t2 : Int)] 71)).heap[W.heap.size + 1]? = some (.cells #[.int .u32 (t0 : Int), .int .u32 (t1 : Int), .int .u32 (t2 : Int)] 71 (0, 0))) := ⟨(two_inB W _ _).1.2, (two_inB W _ _).1.1, (two_inB W _ _).2⟩
  have HW : Hid (PutsIn W v len ps) := hws
  have HU : Hid (D < 18446744073709551616 ∧ A < 18446744073709551616 ∧ U < 18446744073709551616) := ⟨hD, hA, hU⟩
  clear hws hD hA hU
  go_enter Tryz.func5, Tryz.ntmps5
  go_upto_region 1 with fail
  generalize (W.alloc (.cells #[.int .i64 s, .int .u64 (D : Int), .int .u64 (A : Int), .int .u64 (U : Int), .bool rd, .int .i64 fi, .int .i64 ui, .bool ev, .bool al] 27)).alloc (.cells #[.int .u32 (t0 : Int), .int .u32 (t1 : Int), .int .u32 (t2 : Int)] 71) = v0 at *
  go_upto_region 3 with (go_at_call 6; refine (awake_any _).mono ?_; rintro e w1 ⟨rfl, hb1⟩; have X1 : Hid (Below W.heap.size W w1 ∧ w1.heap[W.heap.size]? = some (.cells #[.int .i64 s, .int .u64 (D : Int), .int .u64 (A : Int), .int .u64 (U : Int), .bool rd, .int .i64 fi, .int .i64 ui, .bool ev, .bool al] 27 (0, 0)) ∧ w1.heap[W.heap.size + 1]? = some (.cells #[.int .u32 (t0 : Int), .int .u32 (t1 : Int), .int .u32 (t2 : Int)] 71 (0, 0))) := ⟨below_to X0.out.1 hb1, below_box X0.out.2.1 hb1, below_box X0.out.2.2 hb1⟩; clear hb1 X0)
  go_upto_region 4 with (go_at_call 7; refine (memory_any _ len ps _ (HW.out.up X1.out.1)).mono ?_; rintro e w2 ⟨pv, a, n, c, rfl, hb2, hor⟩; have X2 : Hid (Below W.heap.size W w2 ∧ w2.heap[W.heap.size]? = some (.cells #[.int .i64 s, .int .u64 (D : Int), .int .u64 (A : Int), .int .u64 (U : Int), .bool rd, .int .i64 fi, .int .i64 ui, .bool ev, .bool al] 27 (0, 0)) ∧ w2.heap[W.heap.size + 1]? = some (.cells #[.int .u32 (t0 : Int), .int .u32 (t1 : Int), .int .u32 (t2 : Int)] 71 (0, 0))) := ⟨below_to X1.out.1 hb2, below_box X1.out.2.1 hb2, below_box X1.out.2.2 hb2⟩)
  have hb3 : Below w2.heap.size w2 (w2.alloc (.cells #[.int .u64 8192, .slice a n c] 33)) := one_box _ _
  have X3 : Hid ((Below W.heap.size W (w2.alloc (.cells #[.int .u64 8192, .slice a n c] 33)) ∧ (w2.alloc (.cells #[.int .u64 8192, .slice a n c] 33)).heap[W.heap.size]? = some (.cells #[.int .i64 s, .int .u64 (D : Int), .int .u64 (A : Int), .int .u64 (U : Int), .bool rd, .int .i64 fi, .int .i64 ui, .bool ev, .bool al] 27 (0, 0)) ∧ (w2.alloc (.cells #[.int .u64 8192, .slice a n c] 33)).heap[W.heap.size + 1]? = some (.cells #[.int .u32 (t0 : Int), .int .u32 (t1 : Int), .int .u32 (t2 : Int)] 71 (0, 0))) ∧ (w2.alloc (.cells #[.int .u64 8192, .slice a n c] 33)).heap[w2.heap.size]? = some (.cells #[.int .u64 8192, .slice a n c] 33 (0, 0))) := ⟨⟨below_to X2.out.1 hb3, below_box X2.out.2.1 hb3, below_box X2.out.2.2 hb3⟩, heap_alloc_new _ _⟩
  have Z3 : Hid ((pv = .pointer none ∧ 0 < len) ∨ ∃ rb F M, pv = .pointer (some ⟨rb, 0, none⟩) ∧ Both F (w2.alloc (.cells #[.int .u64 8192, .slice a n c] 33)) rb 8192 (.slice a n c) 12000 M ∧ (∀ k, F k → W.heap.size + 2 ≤ k) ∧ ¬ F w2.heap.size) := hor.imp id (fun ⟨rb, F, M, h1, h2, h3⟩ => ⟨rb, F, M, h1, h2.below hb3, fun k hk => Nat.le_trans (Array.getElem?_eq_some_iff.1 X1.out.2.2).1 (h3 k hk), fun hf => by have := h2.1.lt _ hf; omega⟩)
  clear hor hb2 hb3 X1 X2
  generalize w2.alloc (.cells #[.int .u64 8192, .slice a n c] 33) = w3 at *
  generalize w2.heap.size = p at *
  obtain ⟨c0, c1, c2, c3, c4, c5, c6, c7, c8⟩ := box9_facts X3.out.1.2.1
  rcases Z3.out with ⟨rfl, _⟩ | ⟨rb, F, M, rfl, hB, hF, hFp⟩
  · clear Z3
    go_wp2_with fail
    go_ret
    exact ⟨rfl, X3.out.1.1⟩
  have HB : Hid (Both F w3 rb 8192 (.slice a n c) 12000 M ∧ (∀ k, F k → W.heap.size + 2 ≤ k) ∧ ¬ F p) := ⟨hB, hF, hFp⟩
  clear hB hF hFp Z3
  by_cases hin : inQ fi ui
  case neg =>
    go_wp2_with (go_at_call 8; refine (right_no hin).mono ?_; rintro e w4 ⟨rfl, hb4⟩; have X4 : Hid (Below W.heap.size W w4) := below_to X3.out.1.1 hb4; clear hb4)
    go_ret
    exact ⟨rfl, X4.out⟩
  obtain ⟨fe, us, rfl, rfl, hfe, hus⟩ := inQ_nat hin
  have HFU : Hid (fe ≤ 65535 ∧ us ≤ 65535) := ⟨hfe, hus⟩
  clear hin hfe hus
  obtain ⟨r0, r1, _, _⟩ := box_facts X3.out.2
  obtain ⟨ce, hce⟩ : ∃ ce, chkN s D A U 8192 = ce := ⟨_, rfl⟩
  have KC : Hid (∀ V, Calls Tryz.prog 20 #[.agg #[.int .u64 8192, .slice a n c], .agg #[.int .i64 s, .int .u64 (D : Int), .int .u64 (A : Int), .int .u64 (U : Int)]] V fun e w' => e = .returned (.int .i64 ce) ∧ Below V.heap.size V w') := by
    intro V
    rw [← hce]
    exact rcheck_any HU.out.1 HU.out.2.1 HU.out.2.2 8192 (by omega) a n c V
  have RY : Hid (∀ V, Calls Tryz.prog 8 #[.agg #[.int .i64 s, .int .u64 (D : Int), .int .u64 (A : Int), .int .u64 (U : Int), .bool rd, .int .i64 (fe : Int), .int .i64 (us : Int), .bool ev, .bool al]] V fun e w' => e = .returned (.bool true) ∧ Below V.heap.size V w') := fun V => right_yes HFU.out.1 HFU.out.2
  by_cases hc0 : ce = 0
  case neg =>
    have q1 : (ce != 0) = true := by simp [hc0]
    clear hc0 hce
    go_wp2_with (first | (go_at_call 8; refine (RY.out _).mono ?_; rintro e w4 ⟨rfl, hb4⟩; have X4 : Hid (((Below W.heap.size W w4 ∧ w4.heap[W.heap.size]? = some (.cells #[.int .i64 s, .int .u64 (D : Int), .int .u64 (A : Int), .int .u64 (U : Int), .bool rd, .int .i64 (fe : Int), .int .i64 (us : Int), .bool ev, .bool al] 27 (0, 0)) ∧ w4.heap[W.heap.size + 1]? = some (.cells #[.int .u32 (t0 : Int), .int .u32 (t1 : Int), .int .u32 (t2 : Int)] 71 (0, 0))) ∧ w4.heap[p]? = some (.cells #[.int .u64 8192, .slice a n c] 33 (0, 0)))) := ⟨⟨below_to X3.out.1.1 hb4, below_box X3.out.1.2.1 hb4, below_box X3.out.1.2.2 hb4⟩, below_box X3.out.2 hb4⟩; clear hb4 X3 c0 c1 c2 c3 c4 c5 c6 c7 c8 r0 r1; obtain ⟨c0, c1, c2, c3, c4, c5, c6, c7, c8⟩ := box9_facts X4.out.1.2.1; obtain ⟨r0, r1, _, _⟩ := box_facts X4.out.2) | (go_at_call 20; refine (KC.out _).mono ?_; rintro e w5 ⟨rfl, hb5⟩; have X5 : Hid (Below W.heap.size W w5) := below_to X4.out.1.1 hb5; clear hb5))
    go_ret
    exact ⟨rfl, X5.out⟩
  subst hc0
  obtain ⟨N, hsN, hgN⟩ := gd_of hce HU.out.1
  have HG : Hid (s = (N : Int) ∧ Gd N D A U) := ⟨hsN, hgN⟩
  clear hce hsN hgN RY
  go_upto_region 6 with (first | (go_at_call 8; refine (right_yes HFU.out.1 HFU.out.2).mono ?_; rintro e w4 ⟨rfl, hb4⟩; have X4 : Hid (((Below W.heap.size W w4 ∧ w4.heap[W.heap.size]? = some (.cells #[.int .i64 s, .int .u64 (D : Int), .int .u64 (A : Int), .int .u64 (U : Int), .bool rd, .int .i64 (fe : Int), .int .i64 (us : Int), .bool ev, .bool al] 27 (0, 0)) ∧ w4.heap[W.heap.size + 1]? = some (.cells #[.int .u32 (t0 : Int), .int .u32 (t1 : Int), .int .u32 (t2 : Int)] 71 (0, 0))) ∧ w4.heap[p]? = some (.cells #[.int .u64 8192, .slice a n c] 33 (0, 0))) ∧ Both F w4 rb 8192 (.slice a n c) 12000 M) := ⟨⟨⟨below_to X3.out.1.1 hb4, below_box X3.out.1.2.1 hb4, below_box X3.out.1.2.2 hb4⟩, below_box X3.out.2 hb4⟩, HB.out.1.below hb4⟩; clear hb4 X3 r0 r1 c0 c1 c2 c3 c4 c5 c6 c7 c8; obtain ⟨c0, c1, c2, c3, c4, c5, c6, c7, c8⟩ := box9_facts X4.out.1.1.2.1; obtain ⟨r0, r1, _, _⟩ := box_facts X4.out.1.2) | (go_at_call 20; refine (KC.out _).mono ?_; rintro e w4b ⟨rfl, hb4b⟩; have X4b : Hid (((Below W.heap.size W w4b ∧ w4b.heap[W.heap.size]? = some (.cells #[.int .i64 s, .int .u64 (D : Int), .int .u64 (A : Int), .int .u64 (U : Int), .bool rd, .int .i64 (fe : Int), .int .i64 (us : Int), .bool ev, .bool al] 27 (0, 0)) ∧ w4b.heap[W.heap.size + 1]? = some (.cells #[.int .u32 (t0 : Int), .int .u32 (t1 : Int), .int .u32 (t2 : Int)] 71 (0, 0))) ∧ w4b.heap[p]? = some (.cells #[.int .u64 8192, .slice a n c] 33 (0, 0))) ∧ Both F w4b rb 8192 (.slice a n c) 12000 M) := ⟨⟨⟨below_to X4.out.1.1.1 hb4b, below_box X4.out.1.1.2.1 hb4b, below_box X4.out.1.1.2.2 hb4b⟩, below_box X4.out.1.2 hb4b⟩, X4.out.2.below hb4b⟩; clear hb4b X4 r0 r1))
  clear c0 c1 c2 c3 c4 c5 c6 c7 c8 KC
  go_upto_region 7 with (go_at_call 9; refine (copy_any X4b.out.2.1 (by omega)).mono ?_; rintro e w5 ⟨rb2, F2, rfl, hr2, hF2, hb5⟩; have X5 : Hid ((((Below W.heap.size W w5 ∧ w5.heap[W.heap.size]? = some (.cells #[.int .i64 s, .int .u64 (D : Int), .int .u64 (A : Int), .int .u64 (U : Int), .bool rd, .int .i64 (fe : Int), .int .i64 (us : Int), .bool ev, .bool al] 27 (0, 0)) ∧ w5.heap[W.heap.size + 1]? = some (.cells #[.int .u32 (t0 : Int), .int .u32 (t1 : Int), .int .u32 (t2 : Int)] 71 (0, 0))) ∧ w5.heap[p]? = some (.cells #[.int .u64 8192, .slice a n c] 33 (0, 0))) ∧ Both F w5 rb 8192 (.slice a n c) 12000 M) ∧ RamAt w5 F2 rb2 8192 12000 (.pointer none) M ∧ ∀ k, F2 k → ¬ F k) := ⟨⟨⟨⟨below_to X4b.out.1.1.1 hb5, below_box X4b.out.1.1.2.1 hb5, below_box X4b.out.1.1.2.2 hb5⟩, below_box X4b.out.1.2 hb5⟩, X4b.out.2.below hb5⟩, hr2, fun k hk hf => by have h1 := hF2 k hk; have h2 := X4b.out.2.1.lt k hf; omega⟩; clear hr2 hF2 hb5 X4b)
  obtain ⟨c0, c1, c2, c3, c4, c5, c6, c7, c8⟩ := box9_facts X5.out.1.1.1.2.1
  go_upto_region 8 with (go_at_call 10; refine (lawOf_any HFU.out.1 HFU.out.2).mono ?_; rintro e w6 ⟨rfl, hb6⟩; have X6 : Hid ((((Below W.heap.size W w6 ∧ w6.heap[W.heap.size]? = some (.cells #[.int .i64 s, .int .u64 (D : Int), .int .u64 (A : Int), .int .u64 (U : Int), .bool rd, .int .i64 (fe : Int), .int .i64 (us : Int), .bool ev, .bool al] 27 (0, 0)) ∧ w6.heap[W.heap.size + 1]? = some (.cells #[.int .u32 (t0 : Int), .int .u32 (t1 : Int), .int .u32 (t2 : Int)] 71 (0, 0))) ∧ w6.heap[p]? = some (.cells #[.int .u64 8192, .slice a n c] 33 (0, 0))) ∧ Both F w6 rb 8192 (.slice a n c) 12000 M) ∧ RamAt w6 F2 rb2 8192 12000 (.pointer none) M ∧ ∀ k, F2 k → ¬ F k) := ⟨⟨⟨⟨below_to X5.out.1.1.1.1 hb6, below_box X5.out.1.1.1.2.1 hb6, below_box X5.out.1.1.1.2.2 hb6⟩, below_box X5.out.1.1.2 hb6⟩, X5.out.1.2.below hb6⟩, X5.out.2.1.below hb6, X5.out.2.2⟩; clear hb6 X5 c0 c1 c2 c3 c4 c5 c6 c7 c8)
  obtain ⟨nb, bs, hnb, ⟨a', c', hsl⟩, href, hgt, hrng⟩ := X6.out.1.2.2
  simp only [Value.slice.injEq] at hsl
  obtain ⟨rfl, rfl, rfl⟩ := hsl
  have hb7 : Below w6.heap.size w6 (w6.alloc (.cells #[.int .i64 s, .int .u64 (D : Int), .int .u64 (A : Int), .int .u64 (U : Int), .bool rd, .int .u16 (fe : Int), .int .u16 (us : Int), .bool ev, .bool al] 40)) := one_box _ _
  have X7 : Hid (Ss W (w6.alloc (.cells #[.int .i64 s, .int .u64 (D : Int), .int .u64 (A : Int), .int .u64 (U : Int), .bool rd, .int .u16 (fe : Int), .int .u16 (us : Int), .bool ev, .bool al] 40)) (fun k => F k ∨ k = w6.heap.size) [(p, (.cells #[.int .u64 8192, .slice a n c] 33 (0, 0))), (W.heap.size, (.cells #[.int .i64 s, .int .u64 (D : Int), .int .u64 (A : Int), .int .u64 (U : Int), .bool rd, .int .i64 (fe : Int), .int .i64 (us : Int), .bool ev, .bool al] 27 (0, 0))), (W.heap.size + 1, (.cells #[.int .u32 (t0 : Int), .int .u32 (t1 : Int), .int .u32 (t2 : Int)] 71 (0, 0)))] rb2 F2 M a n c bs ∧ RamAt (w6.alloc (.cells #[.int .i64 s, .int .u64 (D : Int), .int .u64 (A : Int), .int .u64 (U : Int), .bool rd, .int .u16 (fe : Int), .int .u16 (us : Int), .bool ev, .bool al] 40)) F rb 8192 12000 (.pointer none) M ∧ (w6.alloc (.cells #[.int .i64 s, .int .u64 (D : Int), .int .u64 (A : Int), .int .u64 (U : Int), .bool rd, .int .u16 (fe : Int), .int .u16 (us : Int), .bool ev, .bool al] 40)).heap[w6.heap.size]? = some (.cells #[.int .i64 s, .int .u64 (D : Int), .int .u64 (A : Int), .int .u64 (U : Int), .bool rd, .int .u16 (fe : Int), .int .u16 (us : Int), .bool ev, .bool al] 40 (0, 0)) ∧ ¬ F w6.heap.size) := by
    have hr6 := X6.out.1.2.1
    have hn : ¬ F w6.heap.size := fun hf => by have := hr6.lt _ hf; omega
    have hlt : ∀ {q : Nat} {o : Obj}, w6.heap[q]? = some o → q ≠ w6.heap.size := fun h e => by have := (Array.getElem?_eq_some_iff.1 h).1; omega
    refine ⟨⟨⟨below_to X6.out.1.1.1.1 hb7, ?_, ?_⟩, ⟨X6.out.2.1.below hb7, fun k hk hc => hc.elim (X6.out.2.2 k hk) (fun e => by have := X6.out.2.1.lt k hk; omega)⟩, ?_⟩, hr6.below hb7, heap_alloc_new _ _, hn⟩
    · intro x hx
      simp only [List.mem_cons, List.not_mem_nil, or_false] at hx
      rcases hx with rfl | rfl | rfl
      · exact ⟨below_box X6.out.1.1.2 hb7, fun hc => hc.elim HB.out.2.2 (hlt X6.out.1.1.2)⟩
      · exact ⟨below_box X6.out.1.1.1.2.1 hb7, fun hc => hc.elim (fun hf => by have := HB.out.2.1 _ hf; omega) (hlt X6.out.1.1.1.2.1)⟩
      · exact ⟨below_box X6.out.1.1.1.2.2 hb7, fun hc => hc.elim (fun hf => by have := HB.out.2.1 _ hf; omega) (hlt X6.out.1.1.1.2.2)⟩
    · intro k hk
      rcases hk with hk | hk
      · have := HB.out.2.1 k hk; omega
      · rw [hk]; exact X6.out.1.1.1.1.size
    · refine ref_or (href.below hb7) (fun z hz h0 => ref_ne (href.below hb7) (heap_alloc_new _ _) _ rfl not_byte_word hz h0)
  have HX : Hid ((∀ q, rget bs n q = M q) ∧ Rng bs n 8192 ∧ n ≤ 12000 ∧ (∀ a, M a ≤ 255)) := ⟨hgt, hrng, hnb, X6.out.1.2.1.le⟩
  clear X6 hb7 hnb href hgt hrng HB
  generalize w6.alloc (.cells #[.int .i64 s, .int .u64 (D : Int), .int .u64 (A : Int), .int .u64 (U : Int), .bool rd, .int .u16 (fe : Int), .int .u16 (us : Int), .bool ev, .bool al] 40) = w7 at *
  generalize w6.heap.size = qb at *
  obtain ⟨h0, e0, e1, e2, hh0⟩ := told_facts t0
  obtain ⟨h2, e3, e4, e5, hh2⟩ := told_facts t2
  have HH : Hid (h0 ≤ 65535 ∧ h2 ≤ 65535) := ⟨hh0, hh2⟩
  obtain ⟨u1, hu1⟩ : ∃ u1, upN us = u1 := ⟨_, rfl⟩
  have HU1 : Hid (upN us = u1 ∧ u1 ≤ 65535) := ⟨hu1, hu1 ▸ up_le us⟩
  clear hh0 hh2 hu1 HU HW
  obtain ⟨k0, k1, k2⟩ := box3_facts (X7.out.1.at (q := W.heap.size + 1) (o := .cells #[.int .u32 (t0 : Int), .int .u32 (t1 : Int), .int .u32 (t2 : Int)] 71 (0, 0)) (by simp))
  go_quiet (fail)
  have X8 : Hid (Ss W (w7.drewN nq) (fun k => F k ∨ k = qb) [(p, (.cells #[.int .u64 8192, .slice a n c] 33 (0, 0))), (W.heap.size, (.cells #[.int .i64 s, .int .u64 (D : Int), .int .u64 (A : Int), .int .u64 (U : Int), .bool rd, .int .i64 (fe : Int), .int .i64 (us : Int), .bool ev, .bool al] 27 (0, 0))), (W.heap.size + 1, (.cells #[.int .u32 (t0 : Int), .int .u32 (t1 : Int), .int .u32 (t2 : Int)] 71 (0, 0)))] rb2 F2 M a n c bs ∧ RamAt (w7.drewN nq) F rb 8192 12000 (.pointer none) M ∧ (w7.drewN nq).heap[qb]? = some (.cells #[.int .i64 s, .int .u64 (D : Int), .int .u64 (A : Int), .int .u64 (U : Int), .bool rd, .int .u16 (fe : Int), .int .u16 (us : Int), .bool ev, .bool al] 40 (0, 0)) ∧ ¬ F qb) := ⟨X7.out.1.below (below_drewN (Below.refl _ _) nq), X7.out.2.1.below (below_drewN (Below.refl _ _) nq), X7.out.2.2.1, X7.out.2.2.2⟩
  clear X7 k0 k1 k2
  generalize w7.drewN nq = w8 at *
  have KR : Hid (Calls Tryz.prog 21 #[.pointer (some ⟨qb, 0, none⟩), .pointer (some ⟨rb, 0, none⟩), .int .u16 (h0 : Int), .int .u32 (t1 : Int)] w8 fun e w' => e = .returned (.tuple #[]) ∧ ∃ F', Ss W w' (fun k => F' k ∨ k = qb) [(p, (.cells #[.int .u64 8192, .slice a n c] 33 (0, 0))), (W.heap.size, (.cells #[.int .i64 s, .int .u64 (D : Int), .int .u64 (A : Int), .int .u64 (U : Int), .bool rd, .int .i64 (fe : Int), .int .i64 (us : Int), .bool ev, .bool al] 27 (0, 0))), (W.heap.size + 1, (.cells #[.int .u32 (t0 : Int), .int .u32 (t1 : Int), .int .u32 (t2 : Int)] 71 (0, 0)))] rb2 F2 M a n c bs ∧ RamAt w' F' rb 8192 12010 (.pointer none) (retM M N U us h0 t1) ∧ w'.heap[qb]? = some (.cells #[.int .i64 s, .int .u64 (D : Int), .int .u64 (A : Int), .int .u64 (U : Int), .bool rd, .int .u16 (fe : Int), .int .u16 (u1 : Int), .bool ev, .bool al] 40 (0, 0)) ∧ ¬ F' qb) := by
    obtain ⟨x1, x2, x3, x4⟩ := X8.out
    have hx3 := x3
    rw [HG.out.1] at hx3
    refine (return_any x2 hx3 HG.out.2 x4 h0 t1 HFU.out.2 HH.out.1 HT.out (by omega)).mono ?_
    rintro e w' ⟨rfl, hq, F', hr, hst, hqF⟩
    rw [← HG.out.1, HU1.out.1] at hq
    exact ⟨rfl, F', x1.step hst, hr, hq, hqF⟩
  go_upto_region 10 with (go_at_call 21; refine (KR.out).mono ?_; rintro e w9 ⟨rfl, F9, hs9, hr9⟩; have X9 : Hid (Ss W w9 (fun k => F9 k ∨ k = qb) [(p, (.cells #[.int .u64 8192, .slice a n c] 33 (0, 0))), (W.heap.size, (.cells #[.int .i64 s, .int .u64 (D : Int), .int .u64 (A : Int), .int .u64 (U : Int), .bool rd, .int .i64 (fe : Int), .int .i64 (us : Int), .bool ev, .bool al] 27 (0, 0))), (W.heap.size + 1, (.cells #[.int .u32 (t0 : Int), .int .u32 (t1 : Int), .int .u32 (t2 : Int)] 71 (0, 0)))] rb2 F2 M a n c bs ∧ RamAt w9 F9 rb 8192 12010 (.pointer none) (retM M N U us h0 t1) ∧ w9.heap[qb]? = some (.cells #[.int .i64 s, .int .u64 (D : Int), .int .u64 (A : Int), .int .u64 (U : Int), .bool rd, .int .u16 (fe : Int), .int .u16 (u1 : Int), .bool ev, .bool al] 40 (0, 0)) ∧ ¬ F9 qb) := ⟨hs9, hr9⟩; clear hs9 hr9 X8)
  clear KR
  have KD : Hid (Calls Tryz.prog 22 #[.agg #[.int .u64 8192, .slice a n c], .agg #[.int .i64 s, .int .u64 (D : Int), .int .u64 (A : Int), .int .u64 (U : Int), .bool rd, .int .i64 (fe : Int), .int .i64 (us : Int), .bool ev, .bool al], .int .i64 (h0 : Int), .int .u32 (t1 : Int)] w9 fun r w' => ∃ ya yn yc ys, r = .returned (.tuple #[.agg #[.int .u64 8192, .slice ya yn yc], .agg #[.int .i64 s, .int .u64 (D : Int), .int .u64 (A : Int), .int .u64 (U : Int), .bool rd, .int .i64 (fe : Int), .int .i64 (u1 : Int), .bool ev, .bool al]]) ∧ yn ≤ n + 10 ∧ RefIn (fun k => F9 k ∨ k = qb) w' (.slice ya yn yc) yn ys ∧ (∀ q, rget ys yn q = (retM M N U us h0 t1) q) ∧ Rng ys yn 8192 ∧ Below w9.heap.size w9 w') := by
    have := dreturn_any (rd := rd) (ev := ev) (al := al) (fe := fe) X9.out.1.2.2 HX.out.1 HX.out.2.2.2 (by have := HX.out.2.2.1; omega) (fun k hk => hk.elim (X9.out.2.1.lt k) (fun e => by rw [e]; exact (Array.getElem?_eq_some_iff.1 X9.out.2.2.1).1)) HX.out.2.1 HG.out.2 h0 t1 HFU.out.2 HH.out.1 HT.out
    rw [← HG.out.1, HU1.out.1] at this
    exact this
  obtain ⟨c0, c1, c2, c3, c4, c5, c6, c7, c8⟩ := box9_facts (X9.out.1.at (q := W.heap.size) (o := (.cells #[.int .i64 s, .int .u64 (D : Int), .int .u64 (A : Int), .int .u64 (U : Int), .bool rd, .int .i64 (fe : Int), .int .i64 (us : Int), .bool ev, .bool al] 27 (0, 0))) (by simp))
  obtain ⟨r0, r1, _, _⟩ := box_facts (X9.out.1.at (q := p) (o := (.cells #[.int .u64 8192, .slice a n c] 33 (0, 0))) (by simp))
  go_upto_region 11 with (go_at_call 22; refine (KD.out).mono ?_; rintro e w10 ⟨ya, yn, yc, ys, rfl, hyn, hy, hgy, hry, hb10⟩; have X10 : Hid (Ss W w10 (fun k => F9 k ∨ k = qb) [(p, (.cells #[.int .u64 8192, .slice a n c] 33 (0, 0))), (W.heap.size, (.cells #[.int .i64 s, .int .u64 (D : Int), .int .u64 (A : Int), .int .u64 (U : Int), .bool rd, .int .i64 (fe : Int), .int .i64 (us : Int), .bool ev, .bool al] 27 (0, 0))), (W.heap.size + 1, (.cells #[.int .u32 (t0 : Int), .int .u32 (t1 : Int), .int .u32 (t2 : Int)] 71 (0, 0)))] rb2 F2 M a n c bs ∧ RamAt w10 F9 rb 8192 12010 (.pointer none) (retM M N U us h0 t1) ∧ w10.heap[qb]? = some (.cells #[.int .i64 s, .int .u64 (D : Int), .int .u64 (A : Int), .int .u64 (U : Int), .bool rd, .int .u16 (fe : Int), .int .u16 (u1 : Int), .bool ev, .bool al] 40 (0, 0)) ∧ ¬ F9 qb ∧ RefIn (fun k => F9 k ∨ k = qb) w10 (.slice ya yn yc) yn ys) := ⟨X9.out.1.below hb10, X9.out.2.1.below hb10, below_box X9.out.2.2.1 hb10, X9.out.2.2.2, hy⟩; have HY : Hid (yn ≤ n + 10 ∧ (∀ q, rget ys yn q = (retM M N U us h0 t1) q) ∧ Rng ys yn 8192) := ⟨hyn, hgy, hry⟩; clear hyn hy hgy hry hb10 X9 c0 c1 c2 c3 c4 c5 c6 c7 c8 r0 r1)
  clear KD
  have hb11 : Below w10.heap.size w10 ((w10.alloc (.cells #[.int .u64 8192, .slice ya yn yc] 33)).alloc (.cells #[.int .i64 s, .int .u64 (D : Int), .int .u64 (A : Int), .int .u64 (U : Int), .bool rd, .int .i64 (fe : Int), .int .i64 (u1 : Int), .bool ev, .bool al] 27)) := ((Below.refl _ _).alloc (Nat.le_refl _) _).alloc (by simp) _
  have h11 := two_in w10 (.cells #[.int .u64 8192, .slice ya yn yc] 33) (.cells #[.int .i64 s, .int .u64 (D : Int), .int .u64 (A : Int), .int .u64 (U : Int), .bool rd, .int .i64 (fe : Int), .int .i64 (u1 : Int), .bool ev, .bool al] 27)
  have X11 : Hid (Ss W ((w10.alloc (.cells #[.int .u64 8192, .slice ya yn yc] 33)).alloc (.cells #[.int .i64 s, .int .u64 (D : Int), .int .u64 (A : Int), .int .u64 (U : Int), .bool rd, .int .i64 (fe : Int), .int .i64 (u1 : Int), .bool ev, .bool al] 27)) (fun k => F9 k ∨ k = qb) (((w10.heap.size + 1), (.cells #[.int .i64 s, .int .u64 (D : Int), .int .u64 (A : Int), .int .u64 (U : Int), .bool rd, .int .i64 (fe : Int), .int .i64 (u1 : Int), .bool ev, .bool al] 27 (0, 0))) :: (w10.heap.size, (.cells #[.int .u64 8192, .slice ya yn yc] 33 (0, 0))) :: [(p, (.cells #[.int .u64 8192, .slice a n c] 33 (0, 0))), (W.heap.size, (.cells #[.int .i64 s, .int .u64 (D : Int), .int .u64 (A : Int), .int .u64 (U : Int), .bool rd, .int .i64 (fe : Int), .int .i64 (us : Int), .bool ev, .bool al] 27 (0, 0))), (W.heap.size + 1, (.cells #[.int .u32 (t0 : Int), .int .u32 (t1 : Int), .int .u32 (t2 : Int)] 71 (0, 0)))]) rb2 F2 M a n c bs ∧ RamAt ((w10.alloc (.cells #[.int .u64 8192, .slice ya yn yc] 33)).alloc (.cells #[.int .i64 s, .int .u64 (D : Int), .int .u64 (A : Int), .int .u64 (U : Int), .bool rd, .int .i64 (fe : Int), .int .i64 (u1 : Int), .bool ev, .bool al] 27)) F9 rb 8192 12010 (.pointer none) (retM M N U us h0 t1) ∧ ((w10.alloc (.cells #[.int .u64 8192, .slice ya yn yc] 33)).alloc (.cells #[.int .i64 s, .int .u64 (D : Int), .int .u64 (A : Int), .int .u64 (U : Int), .bool rd, .int .i64 (fe : Int), .int .i64 (u1 : Int), .bool ev, .bool al] 27)).heap[qb]? = some (.cells #[.int .i64 s, .int .u64 (D : Int), .int .u64 (A : Int), .int .u64 (U : Int), .bool rd, .int .u16 (fe : Int), .int .u16 (u1 : Int), .bool ev, .bool al] 40 (0, 0)) ∧ ¬ F9 qb ∧ RefIn (fun k => F9 k ∨ k = qb) ((w10.alloc (.cells #[.int .u64 8192, .slice ya yn yc] 33)).alloc (.cells #[.int .i64 s, .int .u64 (D : Int), .int .u64 (A : Int), .int .u64 (U : Int), .bool rd, .int .i64 (fe : Int), .int .i64 (u1 : Int), .bool ev, .bool al] 27)) (.slice ya yn yc) yn ys) := by
    obtain ⟨x1, x2, x3, x4, x5⟩ := X10.out
    have hnew : ∀ q, w10.heap.size ≤ q → ¬ (F9 q ∨ q = qb) := fun q hq hc => hc.elim (fun hf => by have := x2.lt _ hf; omega) (fun he => by have := (Array.getElem?_eq_some_iff.1 x3).1; omega)
    exact ⟨((x1.below hb11).add h11.1 (hnew _ (Nat.le_refl _))).add h11.2 (hnew _ (by omega)), x2.below hb11, below_box x3 hb11, x4, x5.below hb11⟩
  have HP : Hid (¬ F2 w10.heap.size ∧ W.heap.size ≤ w10.heap.size ∧ ∀ x ∈ ([(p, (.cells #[.int .u64 8192, .slice a n c] 33 (0, 0))), (W.heap.size, (.cells #[.int .i64 s, .int .u64 (D : Int), .int .u64 (A : Int), .int .u64 (U : Int), .bool rd, .int .i64 (fe : Int), .int .i64 (us : Int), .bool ev, .bool al] 27 (0, 0))), (W.heap.size + 1, (.cells #[.int .u32 (t0 : Int), .int .u32 (t1 : Int), .int .u32 (t2 : Int)] 71 (0, 0)))] : List (Nat × Obj)), x.1 ≠ w10.heap.size) := ⟨fun hf => by have := X10.out.1.2.1.1.lt _ hf; omega, X10.out.1.1.1.size, fun x hx e => by have := ss_keys X10.out.1 x hx; omega⟩
  clear X10 hb11 h11
  generalize (w10.alloc (.cells #[.int .u64 8192, .slice ya yn yc] 33)).alloc (.cells #[.int .i64 s, .int .u64 (D : Int), .int .u64 (A : Int), .int .u64 (U : Int), .bool rd, .int .i64 (fe : Int), .int .i64 (u1 : Int), .bool ev, .bool al] 27) = w11 at *
  obtain ⟨p15, hp15⟩ : ∃ p15, w10.heap.size + 1 = p15 := ⟨_, rfl⟩
  rw [hp15] at X11 ⊢
  clear hp15
  generalize w10.heap.size = p14 at *
  have Xd : Hid (Ss W w11.drew (fun k => F9 k ∨ k = qb) ((p15, (.cells #[.int .i64 s, .int .u64 (D : Int), .int .u64 (A : Int), .int .u64 (U : Int), .bool rd, .int .i64 (fe : Int), .int .i64 (u1 : Int), .bool ev, .bool al] 27 (0, 0))) :: (p14, (.cells #[.int .u64 8192, .slice ya yn yc] 33 (0, 0))) :: [(p, (.cells #[.int .u64 8192, .slice a n c] 33 (0, 0))), (W.heap.size, (.cells #[.int .i64 s, .int .u64 (D : Int), .int .u64 (A : Int), .int .u64 (U : Int), .bool rd, .int .i64 (fe : Int), .int .i64 (us : Int), .bool ev, .bool al] 27 (0, 0))), (W.heap.size + 1, (.cells #[.int .u32 (t0 : Int), .int .u32 (t1 : Int), .int .u32 (t2 : Int)] 71 (0, 0)))]) rb2 F2 M a n c bs ∧ RamAt w11.drew F9 rb 8192 12010 (.pointer none) (retM M N U us h0 t1) ∧ w11.drew.heap[qb]? = some (.cells #[.int .i64 s, .int .u64 (D : Int), .int .u64 (A : Int), .int .u64 (U : Int), .bool rd, .int .u16 (fe : Int), .int .u16 (u1 : Int), .bool ev, .bool al] 40 (0, 0)) ∧ ¬ F9 qb ∧ RefIn (fun k => F9 k ∨ k = qb) w11.drew (.slice ya yn yc) yn ys) := ⟨X11.out.1.below (Below.drew (Below.refl _ _)), X11.out.2.1.below (Below.drew (Below.refl _ _)), X11.out.2.2.1, X11.out.2.2.2.1, X11.out.2.2.2.2.below (Below.drew (Below.refl _ _))⟩
  clear X11
  have HMR : Hid (∀ a, (retM M N U us h0 t1) a ≤ 255) := Xd.out.2.1.le
  obtain ⟨tb, htb⟩ : ∃ tb, tellB (retM M N U us h0 t1) N A u1 h2 ev = tb := ⟨_, rfl⟩
  have KT : Hid (∀ V, RamAt V F9 rb 8192 12010 (.pointer none) (retM M N U us h0 t1) ∧ V.heap[qb]? = some (.cells #[.int .i64 s, .int .u64 (D : Int), .int .u64 (A : Int), .int .u64 (U : Int), .bool rd, .int .u16 (fe : Int), .int .u16 (u1 : Int), .bool ev, .bool al] 40 (0, 0)) ∧ ¬ F9 qb → Calls Tryz.prog 23 #[.pointer (some ⟨qb, 0, none⟩), .pointer (some ⟨rb, 0, none⟩), .int .u16 (h2 : Int)] V fun e w' => e = .returned (.bool tb) ∧ Below V.heap.size V w') := by
    rintro V ⟨x2, x3, x4⟩
    rw [HG.out.1] at x3
    rw [← htb]
    exact tells_any x2 x3 HG.out.2 h2 HH.out.2 HU1.out.2
  have KDT : Hid (∀ V, RefIn (fun k => F9 k ∨ k = qb) V (.slice ya yn yc) yn ys → Calls Tryz.prog 24 #[.agg #[.int .u64 8192, .slice ya yn yc], .agg #[.int .i64 s, .int .u64 (D : Int), .int .u64 (A : Int), .int .u64 (U : Int), .bool rd, .int .i64 (fe : Int), .int .i64 (u1 : Int), .bool ev, .bool al], .int .i64 (h2 : Int)] V fun e w' => e = .returned (.bool tb) ∧ Below V.heap.size V w') := by
    intro V hV
    rw [HG.out.1, ← htb]
    exact dtells_any hV HY.out.2.1 HMR.out (by have := HY.out.1; have := HX.out.2.2.1; omega) HG.out.2 h2 HH.out.2 HU1.out.2
  clear htb
  refine wp_region_held_drew (S := fun Z => Z.cell? ⟨qb, 0, none⟩ = some (.int .i64 s) ∧ Z.cell? ⟨qb, 1, none⟩ = some (.int .u64 (D : Int)) ∧ Z.cell? ⟨qb, 2, none⟩ = some (.int .u64 (A : Int)) ∧ Z.cell? ⟨qb, 3, none⟩ = some (.int .u64 (U : Int)) ∧ Z.cell? ⟨qb, 4, none⟩ = some (.bool rd) ∧ Z.cell? ⟨qb, 5, none⟩ = some (.int .u16 (fe : Int)) ∧ Z.cell? ⟨qb, 6, none⟩ = some (.int .u16 (u1 : Int)) ∧ Z.cell? ⟨qb, 7, none⟩ = some (.bool ev) ∧ Z.cell? ⟨qb, 8, none⟩ = some (.bool al) ∧ Z.cell? ⟨p15, 0, none⟩ = some (.int .i64 s) ∧ Z.cell? ⟨p15, 1, none⟩ = some (.int .u64 (D : Int)) ∧ Z.cell? ⟨p15, 2, none⟩ = some (.int .u64 (A : Int)) ∧ Z.cell? ⟨p15, 3, none⟩ = some (.int .u64 (U : Int)) ∧ Z.cell? ⟨p15, 4, none⟩ = some (.bool rd) ∧ Z.cell? ⟨p15, 5, none⟩ = some (.int .i64 (fe : Int)) ∧ Z.cell? ⟨p15, 6, none⟩ = some (.int .i64 (u1 : Int)) ∧ Z.cell? ⟨p15, 7, none⟩ = some (.bool ev) ∧ Z.cell? ⟨p15, 8, none⟩ = some (.bool al) ∧ Z.cell? ⟨p14, 0, none⟩ = some (.int .u64 8192) ∧ Z.cell? ⟨p14, 1, none⟩ = some (.slice ya yn yc)) (by kernel_rfl) ⟨cellOf Xd.out.2.2.1 0 _ rfl, cellOf Xd.out.2.2.1 1 _ rfl, cellOf Xd.out.2.2.1 2 _ rfl, cellOf Xd.out.2.2.1 3 _ rfl, cellOf Xd.out.2.2.1 4 _ rfl, cellOf Xd.out.2.2.1 5 _ rfl, cellOf Xd.out.2.2.1 6 _ rfl, cellOf Xd.out.2.2.1 7 _ rfl, cellOf Xd.out.2.2.1 8 _ rfl, cellOf (Xd.out.1.at (q := p15) (o := .cells #[.int .i64 s, .int .u64 (D : Int), .int .u64 (A : Int), .int .u64 (U : Int), .bool rd, .int .i64 (fe : Int), .int .i64 (u1 : Int), .bool ev, .bool al] 27 (0, 0)) (by simp)) 0 _ rfl, cellOf (Xd.out.1.at (q := p15) (o := .cells #[.int .i64 s, .int .u64 (D : Int), .int .u64 (A : Int), .int .u64 (U : Int), .bool rd, .int .i64 (fe : Int), .int .i64 (u1 : Int), .bool ev, .bool al] 27 (0, 0)) (by simp)) 1 _ rfl, cellOf (Xd.out.1.at (q := p15) (o := .cells #[.int .i64 s, .int .u64 (D : Int), .int .u64 (A : Int), .int .u64 (U : Int), .bool rd, .int .i64 (fe : Int), .int .i64 (u1 : Int), .bool ev, .bool al] 27 (0, 0)) (by simp)) 2 _ rfl, cellOf (Xd.out.1.at (q := p15) (o := .cells #[.int .i64 s, .int .u64 (D : Int), .int .u64 (A : Int), .int .u64 (U : Int), .bool rd, .int .i64 (fe : Int), .int .i64 (u1 : Int), .bool ev, .bool al] 27 (0, 0)) (by simp)) 3 _ rfl, cellOf (Xd.out.1.at (q := p15) (o := .cells #[.int .i64 s, .int .u64 (D : Int), .int .u64 (A : Int), .int .u64 (U : Int), .bool rd, .int .i64 (fe : Int), .int .i64 (u1 : Int), .bool ev, .bool al] 27 (0, 0)) (by simp)) 4 _ rfl, cellOf (Xd.out.1.at (q := p15) (o := .cells #[.int .i64 s, .int .u64 (D : Int), .int .u64 (A : Int), .int .u64 (U : Int), .bool rd, .int .i64 (fe : Int), .int .i64 (u1 : Int), .bool ev, .bool al] 27 (0, 0)) (by simp)) 5 _ rfl, cellOf (Xd.out.1.at (q := p15) (o := .cells #[.int .i64 s, .int .u64 (D : Int), .int .u64 (A : Int), .int .u64 (U : Int), .bool rd, .int .i64 (fe : Int), .int .i64 (u1 : Int), .bool ev, .bool al] 27 (0, 0)) (by simp)) 6 _ rfl, cellOf (Xd.out.1.at (q := p15) (o := .cells #[.int .i64 s, .int .u64 (D : Int), .int .u64 (A : Int), .int .u64 (U : Int), .bool rd, .int .i64 (fe : Int), .int .i64 (u1 : Int), .bool ev, .bool al] 27 (0, 0)) (by simp)) 7 _ rfl, cellOf (Xd.out.1.at (q := p15) (o := .cells #[.int .i64 s, .int .u64 (D : Int), .int .u64 (A : Int), .int .u64 (U : Int), .bool rd, .int .i64 (fe : Int), .int .i64 (u1 : Int), .bool ev, .bool al] 27 (0, 0)) (by simp)) 8 _ rfl, cellOf (Xd.out.1.at (q := p14) (o := .cells #[.int .u64 8192, .slice ya yn yc] 33 (0, 0)) (by simp)) 0 _ rfl, cellOf (Xd.out.1.at (q := p14) (o := .cells #[.int .u64 8192, .slice ya yn yc] 33 (0, 0)) (by simp)) 1 _ rfl⟩ ?_
  intro hS
  generalize w11.drew = wd at *
  refine wpAnyH_take (i := 0) (v := ?_) rfl (by kernel_rfl) (by kernel_rfl) (by kernel_rfl) (fun _ _ _ h => h) (Or.inl ⟨by kernel_rfl, ?_⟩) hS ?_
  rotate_left
  · intro w hSw; (try dsimp only at hSw); go_simp; try (with_reducible rfl)
  (try simp only [Act.put, List.getElem_toArray, List.getElem_cons_succ, List.getElem_cons_zero, List.setIfInBounds_toArray, List.set_cons_zero, List.set_cons_succ])
  refine wpAnyH_take (i := 1) (v := ?_) rfl (by kernel_rfl) (by kernel_rfl) (by kernel_rfl) (fun _ _ _ h => h) (Or.inl ⟨by kernel_rfl, ?_⟩) hS ?_
  rotate_left
  · intro w hSw; (try dsimp only at hSw); go_simp; try (with_reducible rfl)
  (try simp only [Act.put, List.getElem_toArray, List.getElem_cons_succ, List.getElem_cons_zero, List.setIfInBounds_toArray, List.set_cons_zero, List.set_cons_succ])
  refine wpAnyH_ready (rs := [2]) (by kernel_rfl) (by simp) ?_
  refine AllReadyH.cons rfl (fun K1 hK1 => ?_) AllReadyH.nil
  go_simp
  refine (lawOf_any HFU.out.1 HU1.out.2).mono ?_
  rintro r w12 ⟨rfl, hb12⟩
  have X12 : Hid (Ss W w12 (fun k => F9 k ∨ k = qb) ((p15, (.cells #[.int .i64 s, .int .u64 (D : Int), .int .u64 (A : Int), .int .u64 (U : Int), .bool rd, .int .i64 (fe : Int), .int .i64 (u1 : Int), .bool ev, .bool al] 27 (0, 0))) :: (p14, (.cells #[.int .u64 8192, .slice ya yn yc] 33 (0, 0))) :: [(p, (.cells #[.int .u64 8192, .slice a n c] 33 (0, 0))), (W.heap.size, (.cells #[.int .i64 s, .int .u64 (D : Int), .int .u64 (A : Int), .int .u64 (U : Int), .bool rd, .int .i64 (fe : Int), .int .i64 (us : Int), .bool ev, .bool al] 27 (0, 0))), (W.heap.size + 1, (.cells #[.int .u32 (t0 : Int), .int .u32 (t1 : Int), .int .u32 (t2 : Int)] 71 (0, 0)))]) rb2 F2 M a n c bs ∧ RamAt w12 F9 rb 8192 12010 (.pointer none) (retM M N U us h0 t1) ∧ w12.heap[qb]? = some (.cells #[.int .i64 s, .int .u64 (D : Int), .int .u64 (A : Int), .int .u64 (U : Int), .bool rd, .int .u16 (fe : Int), .int .u16 (u1 : Int), .bool ev, .bool al] 40 (0, 0)) ∧ ¬ F9 qb ∧ RefIn (fun k => F9 k ∨ k = qb) w12 (.slice ya yn yc) yn ys) := ⟨Xd.out.1.below hb12, Xd.out.2.1.below hb12, below_box Xd.out.2.2.1 hb12, Xd.out.2.2.2.1, Xd.out.2.2.2.2.below hb12⟩
  clear hb12 Xd
  refine hK1.out _ _ ⟨cellOf X12.out.2.2.1 0 _ rfl, cellOf X12.out.2.2.1 1 _ rfl, cellOf X12.out.2.2.1 2 _ rfl, cellOf X12.out.2.2.1 3 _ rfl, cellOf X12.out.2.2.1 4 _ rfl, cellOf X12.out.2.2.1 5 _ rfl, cellOf X12.out.2.2.1 6 _ rfl, cellOf X12.out.2.2.1 7 _ rfl, cellOf X12.out.2.2.1 8 _ rfl, cellOf (X12.out.1.at (q := p15) (o := .cells #[.int .i64 s, .int .u64 (D : Int), .int .u64 (A : Int), .int .u64 (U : Int), .bool rd, .int .i64 (fe : Int), .int .i64 (u1 : Int), .bool ev, .bool al] 27 (0, 0)) (by simp)) 0 _ rfl, cellOf (X12.out.1.at (q := p15) (o := .cells #[.int .i64 s, .int .u64 (D : Int), .int .u64 (A : Int), .int .u64 (U : Int), .bool rd, .int .i64 (fe : Int), .int .i64 (u1 : Int), .bool ev, .bool al] 27 (0, 0)) (by simp)) 1 _ rfl, cellOf (X12.out.1.at (q := p15) (o := .cells #[.int .i64 s, .int .u64 (D : Int), .int .u64 (A : Int), .int .u64 (U : Int), .bool rd, .int .i64 (fe : Int), .int .i64 (u1 : Int), .bool ev, .bool al] 27 (0, 0)) (by simp)) 2 _ rfl, cellOf (X12.out.1.at (q := p15) (o := .cells #[.int .i64 s, .int .u64 (D : Int), .int .u64 (A : Int), .int .u64 (U : Int), .bool rd, .int .i64 (fe : Int), .int .i64 (u1 : Int), .bool ev, .bool al] 27 (0, 0)) (by simp)) 3 _ rfl, cellOf (X12.out.1.at (q := p15) (o := .cells #[.int .i64 s, .int .u64 (D : Int), .int .u64 (A : Int), .int .u64 (U : Int), .bool rd, .int .i64 (fe : Int), .int .i64 (u1 : Int), .bool ev, .bool al] 27 (0, 0)) (by simp)) 4 _ rfl, cellOf (X12.out.1.at (q := p15) (o := .cells #[.int .i64 s, .int .u64 (D : Int), .int .u64 (A : Int), .int .u64 (U : Int), .bool rd, .int .i64 (fe : Int), .int .i64 (u1 : Int), .bool ev, .bool al] 27 (0, 0)) (by simp)) 5 _ rfl, cellOf (X12.out.1.at (q := p15) (o := .cells #[.int .i64 s, .int .u64 (D : Int), .int .u64 (A : Int), .int .u64 (U : Int), .bool rd, .int .i64 (fe : Int), .int .i64 (u1 : Int), .bool ev, .bool al] 27 (0, 0)) (by simp)) 6 _ rfl, cellOf (X12.out.1.at (q := p15) (o := .cells #[.int .i64 s, .int .u64 (D : Int), .int .u64 (A : Int), .int .u64 (U : Int), .bool rd, .int .i64 (fe : Int), .int .i64 (u1 : Int), .bool ev, .bool al] 27 (0, 0)) (by simp)) 7 _ rfl, cellOf (X12.out.1.at (q := p15) (o := .cells #[.int .i64 s, .int .u64 (D : Int), .int .u64 (A : Int), .int .u64 (U : Int), .bool rd, .int .i64 (fe : Int), .int .i64 (u1 : Int), .bool ev, .bool al] 27 (0, 0)) (by simp)) 8 _ rfl, cellOf (X12.out.1.at (q := p14) (o := .cells #[.int .u64 8192, .slice ya yn yc] 33 (0, 0)) (by simp)) 0 _ rfl, cellOf (X12.out.1.at (q := p14) (o := .cells #[.int .u64 8192, .slice ya yn yc] 33 (0, 0)) (by simp)) 1 _ rfl⟩ (fun h12 => ?_)
  clear hK1 K1 hS
  (try simp only [Act.put, List.getElem_toArray, List.getElem_cons_succ, List.getElem_cons_zero, List.setIfInBounds_toArray, List.set_cons_zero, List.set_cons_succ])
  refine wpAnyH_take (i := 3) (v := ?_) rfl (by kernel_rfl) (by kernel_rfl) (by kernel_rfl) (fun _ _ _ h => h) (Or.inl ⟨by kernel_rfl, ?_⟩) h12 ?_
  rotate_left
  · intro w hSw; (try dsimp only at hSw); go_simp; try (with_reducible rfl)
  (try simp only [Act.put, List.getElem_toArray, List.getElem_cons_succ, List.getElem_cons_zero, List.setIfInBounds_toArray, List.set_cons_zero, List.set_cons_succ])
  refine wpAnyH_take (i := 4) (v := ?_) rfl (by kernel_rfl) (by kernel_rfl) (by kernel_rfl) (fun _ _ _ h => h) (Or.inl ⟨by kernel_rfl, ?_⟩) h12 ?_
  rotate_left
  · intro w hSw; (try dsimp only at hSw); go_simp; try (with_reducible rfl)
  (try simp only [Act.put, List.getElem_toArray, List.getElem_cons_succ, List.getElem_cons_zero, List.setIfInBounds_toArray, List.set_cons_zero, List.set_cons_succ])
  refine wpAnyH_take (i := 5) (v := ?_) rfl (by kernel_rfl) (by kernel_rfl) (by kernel_rfl) (fun _ _ _ h => h) (Or.inl ⟨by kernel_rfl, ?_⟩) h12 ?_
  rotate_left
  · intro w hSw; (try dsimp only at hSw); go_simp; try (with_reducible rfl)
  (try simp only [Act.put, List.getElem_toArray, List.getElem_cons_succ, List.getElem_cons_zero, List.setIfInBounds_toArray, List.set_cons_zero, List.set_cons_succ])
  refine wpAnyH_take (i := 6) (v := ?_) rfl (by kernel_rfl) (by kernel_rfl) (by kernel_rfl) (fun _ _ _ h => h) (Or.inl ⟨by kernel_rfl, ?_⟩) h12 ?_
  rotate_left
  · intro w hSw; (try dsimp only at hSw); go_simp; try (with_reducible rfl)
  (try simp only [Act.put, List.getElem_toArray, List.getElem_cons_succ, List.getElem_cons_zero, List.setIfInBounds_toArray, List.set_cons_zero, List.set_cons_succ])
  refine wpAnyH_take (i := 8) (v := ?_) rfl (by kernel_rfl) (by kernel_rfl) (by kernel_rfl) (fun _ _ _ h => h) (Or.inl ⟨by kernel_rfl, ?_⟩) h12 ?_
  rotate_left
  · intro w hSw; (try dsimp only at hSw); go_simp; try (with_reducible rfl)
  (try simp only [Act.put, List.getElem_toArray, List.getElem_cons_succ, List.getElem_cons_zero, List.setIfInBounds_toArray, List.set_cons_zero, List.set_cons_succ])
  refine wpAnyH_take (i := 9) (v := ?_) rfl (by kernel_rfl) (by kernel_rfl) (by kernel_rfl) (fun _ _ _ h => h) (Or.inl ⟨by kernel_rfl, ?_⟩) h12 ?_
  rotate_left
  · intro w hSw; (try dsimp only at hSw); go_simp; try (with_reducible rfl)
  (try simp only [Act.put, List.getElem_toArray, List.getElem_cons_succ, List.getElem_cons_zero, List.setIfInBounds_toArray, List.set_cons_zero, List.set_cons_succ])
  refine wpAnyH_take (i := 10) (v := ?_) rfl (by kernel_rfl) (by kernel_rfl) (by kernel_rfl) (fun _ _ _ h => h) (Or.inl ⟨by kernel_rfl, ?_⟩) h12 ?_
  rotate_left
  · intro w hSw; (try dsimp only at hSw); go_simp; try (with_reducible rfl)
  (try simp only [Act.put, List.getElem_toArray, List.getElem_cons_succ, List.getElem_cons_zero, List.setIfInBounds_toArray, List.set_cons_zero, List.set_cons_succ])
  refine wpAnyH_take (i := 11) (v := ?_) rfl (by kernel_rfl) (by kernel_rfl) (by kernel_rfl) (fun _ _ _ h => h) (Or.inl ⟨by kernel_rfl, ?_⟩) h12 ?_
  rotate_left
  · intro w hSw; (try dsimp only at hSw); go_simp; try (with_reducible rfl)
  (try simp only [Act.put, List.getElem_toArray, List.getElem_cons_succ, List.getElem_cons_zero, List.setIfInBounds_toArray, List.set_cons_zero, List.set_cons_succ])
  refine wpAnyH_ready (rs := [7]) (by kernel_rfl) (by simp) ?_
  refine AllReadyH.cons rfl (fun K1 hK1 => ?_) AllReadyH.nil
  go_simp
  refine (KT.out _ ⟨X12.out.2.1, X12.out.2.2.1, X12.out.2.2.2.1⟩).mono ?_
  rintro r w13 ⟨rfl, hb13⟩
  have X13 : Hid (Ss W w13 (fun k => F9 k ∨ k = qb) ((p15, (.cells #[.int .i64 s, .int .u64 (D : Int), .int .u64 (A : Int), .int .u64 (U : Int), .bool rd, .int .i64 (fe : Int), .int .i64 (u1 : Int), .bool ev, .bool al] 27 (0, 0))) :: (p14, (.cells #[.int .u64 8192, .slice ya yn yc] 33 (0, 0))) :: [(p, (.cells #[.int .u64 8192, .slice a n c] 33 (0, 0))), (W.heap.size, (.cells #[.int .i64 s, .int .u64 (D : Int), .int .u64 (A : Int), .int .u64 (U : Int), .bool rd, .int .i64 (fe : Int), .int .i64 (us : Int), .bool ev, .bool al] 27 (0, 0))), (W.heap.size + 1, (.cells #[.int .u32 (t0 : Int), .int .u32 (t1 : Int), .int .u32 (t2 : Int)] 71 (0, 0)))]) rb2 F2 M a n c bs ∧ RamAt w13 F9 rb 8192 12010 (.pointer none) (retM M N U us h0 t1) ∧ w13.heap[qb]? = some (.cells #[.int .i64 s, .int .u64 (D : Int), .int .u64 (A : Int), .int .u64 (U : Int), .bool rd, .int .u16 (fe : Int), .int .u16 (u1 : Int), .bool ev, .bool al] 40 (0, 0)) ∧ ¬ F9 qb ∧ RefIn (fun k => F9 k ∨ k = qb) w13 (.slice ya yn yc) yn ys) := ⟨X12.out.1.below hb13, X12.out.2.1.below hb13, below_box X12.out.2.2.1 hb13, X12.out.2.2.2.1, X12.out.2.2.2.2.below hb13⟩
  clear hb13 X12 KT
  refine hK1.out _ _ ⟨cellOf X13.out.2.2.1 0 _ rfl, cellOf X13.out.2.2.1 1 _ rfl, cellOf X13.out.2.2.1 2 _ rfl, cellOf X13.out.2.2.1 3 _ rfl, cellOf X13.out.2.2.1 4 _ rfl, cellOf X13.out.2.2.1 5 _ rfl, cellOf X13.out.2.2.1 6 _ rfl, cellOf X13.out.2.2.1 7 _ rfl, cellOf X13.out.2.2.1 8 _ rfl, cellOf (X13.out.1.at (q := p15) (o := .cells #[.int .i64 s, .int .u64 (D : Int), .int .u64 (A : Int), .int .u64 (U : Int), .bool rd, .int .i64 (fe : Int), .int .i64 (u1 : Int), .bool ev, .bool al] 27 (0, 0)) (by simp)) 0 _ rfl, cellOf (X13.out.1.at (q := p15) (o := .cells #[.int .i64 s, .int .u64 (D : Int), .int .u64 (A : Int), .int .u64 (U : Int), .bool rd, .int .i64 (fe : Int), .int .i64 (u1 : Int), .bool ev, .bool al] 27 (0, 0)) (by simp)) 1 _ rfl, cellOf (X13.out.1.at (q := p15) (o := .cells #[.int .i64 s, .int .u64 (D : Int), .int .u64 (A : Int), .int .u64 (U : Int), .bool rd, .int .i64 (fe : Int), .int .i64 (u1 : Int), .bool ev, .bool al] 27 (0, 0)) (by simp)) 2 _ rfl, cellOf (X13.out.1.at (q := p15) (o := .cells #[.int .i64 s, .int .u64 (D : Int), .int .u64 (A : Int), .int .u64 (U : Int), .bool rd, .int .i64 (fe : Int), .int .i64 (u1 : Int), .bool ev, .bool al] 27 (0, 0)) (by simp)) 3 _ rfl, cellOf (X13.out.1.at (q := p15) (o := .cells #[.int .i64 s, .int .u64 (D : Int), .int .u64 (A : Int), .int .u64 (U : Int), .bool rd, .int .i64 (fe : Int), .int .i64 (u1 : Int), .bool ev, .bool al] 27 (0, 0)) (by simp)) 4 _ rfl, cellOf (X13.out.1.at (q := p15) (o := .cells #[.int .i64 s, .int .u64 (D : Int), .int .u64 (A : Int), .int .u64 (U : Int), .bool rd, .int .i64 (fe : Int), .int .i64 (u1 : Int), .bool ev, .bool al] 27 (0, 0)) (by simp)) 5 _ rfl, cellOf (X13.out.1.at (q := p15) (o := .cells #[.int .i64 s, .int .u64 (D : Int), .int .u64 (A : Int), .int .u64 (U : Int), .bool rd, .int .i64 (fe : Int), .int .i64 (u1 : Int), .bool ev, .bool al] 27 (0, 0)) (by simp)) 6 _ rfl, cellOf (X13.out.1.at (q := p15) (o := .cells #[.int .i64 s, .int .u64 (D : Int), .int .u64 (A : Int), .int .u64 (U : Int), .bool rd, .int .i64 (fe : Int), .int .i64 (u1 : Int), .bool ev, .bool al] 27 (0, 0)) (by simp)) 7 _ rfl, cellOf (X13.out.1.at (q := p15) (o := .cells #[.int .i64 s, .int .u64 (D : Int), .int .u64 (A : Int), .int .u64 (U : Int), .bool rd, .int .i64 (fe : Int), .int .i64 (u1 : Int), .bool ev, .bool al] 27 (0, 0)) (by simp)) 8 _ rfl, cellOf (X13.out.1.at (q := p14) (o := .cells #[.int .u64 8192, .slice ya yn yc] 33 (0, 0)) (by simp)) 0 _ rfl, cellOf (X13.out.1.at (q := p14) (o := .cells #[.int .u64 8192, .slice ya yn yc] 33 (0, 0)) (by simp)) 1 _ rfl⟩ (fun h13 => ?_)
  clear hK1 K1 h12
  (try simp only [Act.put, List.getElem_toArray, List.getElem_cons_succ, List.getElem_cons_zero, List.setIfInBounds_toArray, List.set_cons_zero, List.set_cons_succ])
  refine wpAnyH_ready (rs := [12]) (by kernel_rfl) (by simp) ?_
  refine AllReadyH.cons rfl (fun K1 hK1 => ?_) AllReadyH.nil
  go_simp
  refine (KDT.out _ X13.out.2.2.2.2).mono ?_
  rintro r w14 ⟨rfl, hb14⟩
  have X14 : Hid (Ss W w14 (fun k => F9 k ∨ k = qb) ((p15, (.cells #[.int .i64 s, .int .u64 (D : Int), .int .u64 (A : Int), .int .u64 (U : Int), .bool rd, .int .i64 (fe : Int), .int .i64 (u1 : Int), .bool ev, .bool al] 27 (0, 0))) :: (p14, (.cells #[.int .u64 8192, .slice ya yn yc] 33 (0, 0))) :: [(p, (.cells #[.int .u64 8192, .slice a n c] 33 (0, 0))), (W.heap.size, (.cells #[.int .i64 s, .int .u64 (D : Int), .int .u64 (A : Int), .int .u64 (U : Int), .bool rd, .int .i64 (fe : Int), .int .i64 (us : Int), .bool ev, .bool al] 27 (0, 0))), (W.heap.size + 1, (.cells #[.int .u32 (t0 : Int), .int .u32 (t1 : Int), .int .u32 (t2 : Int)] 71 (0, 0)))]) rb2 F2 M a n c bs ∧ RamAt w14 F9 rb 8192 12010 (.pointer none) (retM M N U us h0 t1) ∧ w14.heap[qb]? = some (.cells #[.int .i64 s, .int .u64 (D : Int), .int .u64 (A : Int), .int .u64 (U : Int), .bool rd, .int .u16 (fe : Int), .int .u16 (u1 : Int), .bool ev, .bool al] 40 (0, 0)) ∧ ¬ F9 qb ∧ RefIn (fun k => F9 k ∨ k = qb) w14 (.slice ya yn yc) yn ys) := ⟨X13.out.1.below hb14, X13.out.2.1.below hb14, below_box X13.out.2.2.1 hb14, X13.out.2.2.2.1, X13.out.2.2.2.2.below hb14⟩
  clear hb14 X13 KDT
  refine hK1.out _ _ ⟨cellOf X14.out.2.2.1 0 _ rfl, cellOf X14.out.2.2.1 1 _ rfl, cellOf X14.out.2.2.1 2 _ rfl, cellOf X14.out.2.2.1 3 _ rfl, cellOf X14.out.2.2.1 4 _ rfl, cellOf X14.out.2.2.1 5 _ rfl, cellOf X14.out.2.2.1 6 _ rfl, cellOf X14.out.2.2.1 7 _ rfl, cellOf X14.out.2.2.1 8 _ rfl, cellOf (X14.out.1.at (q := p15) (o := .cells #[.int .i64 s, .int .u64 (D : Int), .int .u64 (A : Int), .int .u64 (U : Int), .bool rd, .int .i64 (fe : Int), .int .i64 (u1 : Int), .bool ev, .bool al] 27 (0, 0)) (by simp)) 0 _ rfl, cellOf (X14.out.1.at (q := p15) (o := .cells #[.int .i64 s, .int .u64 (D : Int), .int .u64 (A : Int), .int .u64 (U : Int), .bool rd, .int .i64 (fe : Int), .int .i64 (u1 : Int), .bool ev, .bool al] 27 (0, 0)) (by simp)) 1 _ rfl, cellOf (X14.out.1.at (q := p15) (o := .cells #[.int .i64 s, .int .u64 (D : Int), .int .u64 (A : Int), .int .u64 (U : Int), .bool rd, .int .i64 (fe : Int), .int .i64 (u1 : Int), .bool ev, .bool al] 27 (0, 0)) (by simp)) 2 _ rfl, cellOf (X14.out.1.at (q := p15) (o := .cells #[.int .i64 s, .int .u64 (D : Int), .int .u64 (A : Int), .int .u64 (U : Int), .bool rd, .int .i64 (fe : Int), .int .i64 (u1 : Int), .bool ev, .bool al] 27 (0, 0)) (by simp)) 3 _ rfl, cellOf (X14.out.1.at (q := p15) (o := .cells #[.int .i64 s, .int .u64 (D : Int), .int .u64 (A : Int), .int .u64 (U : Int), .bool rd, .int .i64 (fe : Int), .int .i64 (u1 : Int), .bool ev, .bool al] 27 (0, 0)) (by simp)) 4 _ rfl, cellOf (X14.out.1.at (q := p15) (o := .cells #[.int .i64 s, .int .u64 (D : Int), .int .u64 (A : Int), .int .u64 (U : Int), .bool rd, .int .i64 (fe : Int), .int .i64 (u1 : Int), .bool ev, .bool al] 27 (0, 0)) (by simp)) 5 _ rfl, cellOf (X14.out.1.at (q := p15) (o := .cells #[.int .i64 s, .int .u64 (D : Int), .int .u64 (A : Int), .int .u64 (U : Int), .bool rd, .int .i64 (fe : Int), .int .i64 (u1 : Int), .bool ev, .bool al] 27 (0, 0)) (by simp)) 6 _ rfl, cellOf (X14.out.1.at (q := p15) (o := .cells #[.int .i64 s, .int .u64 (D : Int), .int .u64 (A : Int), .int .u64 (U : Int), .bool rd, .int .i64 (fe : Int), .int .i64 (u1 : Int), .bool ev, .bool al] 27 (0, 0)) (by simp)) 7 _ rfl, cellOf (X14.out.1.at (q := p15) (o := .cells #[.int .i64 s, .int .u64 (D : Int), .int .u64 (A : Int), .int .u64 (U : Int), .bool rd, .int .i64 (fe : Int), .int .i64 (u1 : Int), .bool ev, .bool al] 27 (0, 0)) (by simp)) 8 _ rfl, cellOf (X14.out.1.at (q := p14) (o := .cells #[.int .u64 8192, .slice ya yn yc] 33 (0, 0)) (by simp)) 0 _ rfl, cellOf (X14.out.1.at (q := p14) (o := .cells #[.int .u64 8192, .slice ya yn yc] 33 (0, 0)) (by simp)) 1 _ rfl⟩ (fun h14 => ?_)
  clear hK1 K1 h13
  (try simp only [Act.put, List.getElem_toArray, List.getElem_cons_succ, List.getElem_cons_zero, List.setIfInBounds_toArray, List.set_cons_zero, List.set_cons_succ])
  refine wpAnyH_take (i := 13) (v := ?_) rfl (by kernel_rfl) (by kernel_rfl) (by kernel_rfl) (fun _ _ _ h => h) (Or.inl ⟨by kernel_rfl, ?_⟩) h14 ?_
  rotate_left
  · intro w hSw; (try dsimp only at hSw); go_simp; try (with_reducible rfl)
  (try simp only [Act.put, List.getElem_toArray, List.getElem_cons_succ, List.getElem_cons_zero, List.setIfInBounds_toArray, List.set_cons_zero, List.set_cons_succ])
  refine wpAnyH_take (i := 14) (v := ?_) rfl (by kernel_rfl) (by kernel_rfl) (by kernel_rfl) (fun _ _ _ h => h) (Or.inl ⟨by kernel_rfl, ?_⟩) h14 ?_
  rotate_left
  · intro w hSw; (try dsimp only at hSw); go_simp; try (with_reducible rfl)
  (try simp only [Act.put, List.getElem_toArray, List.getElem_cons_succ, List.getElem_cons_zero, List.setIfInBounds_toArray, List.set_cons_zero, List.set_cons_succ])
  refine wpAnyH_done (by kernel_rfl) ?_ _
  clear h14
  have KA : Hid (Calls Tryz.prog 25 #[.pointer (some ⟨qb, 0, none⟩), .pointer (some ⟨rb, 0, none⟩)] w14 fun e w' => e = .returned (.tuple #[]) ∧ ∃ F', Ss W w' (fun k => F' k ∨ k = qb) ((p15, (.cells #[.int .i64 s, .int .u64 (D : Int), .int .u64 (A : Int), .int .u64 (U : Int), .bool rd, .int .i64 (fe : Int), .int .i64 (u1 : Int), .bool ev, .bool al] 27 (0, 0))) :: (p14, (.cells #[.int .u64 8192, .slice ya yn yc] 33 (0, 0))) :: [(p, (.cells #[.int .u64 8192, .slice a n c] 33 (0, 0))), (W.heap.size, (.cells #[.int .i64 s, .int .u64 (D : Int), .int .u64 (A : Int), .int .u64 (U : Int), .bool rd, .int .i64 (fe : Int), .int .i64 (us : Int), .bool ev, .bool al] 27 (0, 0))), (W.heap.size + 1, (.cells #[.int .u32 (t0 : Int), .int .u32 (t1 : Int), .int .u32 (t2 : Int)] 71 (0, 0)))]) rb2 F2 M a n c bs ∧ RamAt w' F' rb 8192 12012 (.pointer none) (askM (retM M N U us h0 t1) N U fe ev) ∧ w'.heap[qb]? = some (.cells #[.int .i64 s, .int .u64 (D : Int), .int .u64 (A : Int), .int .u64 (U : Int), .bool rd, .int .u16 (fe : Int), .int .u16 (u1 : Int), .bool ev, .bool al] 40 (0, 0)) ∧ ¬ F' qb ∧ RefIn (fun k => F' k ∨ k = qb) w' (.slice ya yn yc) yn ys) := by
    obtain ⟨x1, x2, x3, x4, x5⟩ := X14.out
    have hx3 := x3
    rw [HG.out.1] at hx3
    refine (ask_any x2 hx3 HG.out.2 x4 HFU.out.1 (by omega)).mono ?_
    rintro e w' ⟨rfl, F', hr, hst⟩
    have hqlt := (Array.getElem?_eq_some_iff.1 x3).1
    exact ⟨rfl, F', x1.step (step_q hst hqlt), hr, step_box hst x3 x4, not_later hst hqlt x4, x5.step (step_q hst hqlt)⟩
  go_upto_region 14 with (go_at_call 25; refine (KA.out).mono ?_; rintro e w15 ⟨rfl, F5, hs15, hr15, hq15, hn15, hy15⟩; have X15 : Hid (Ss W w15 (fun k => F5 k ∨ k = qb) ((p15, (.cells #[.int .i64 s, .int .u64 (D : Int), .int .u64 (A : Int), .int .u64 (U : Int), .bool rd, .int .i64 (fe : Int), .int .i64 (u1 : Int), .bool ev, .bool al] 27 (0, 0))) :: (p14, (.cells #[.int .u64 8192, .slice ya yn yc] 33 (0, 0))) :: [(p, (.cells #[.int .u64 8192, .slice a n c] 33 (0, 0))), (W.heap.size, (.cells #[.int .i64 s, .int .u64 (D : Int), .int .u64 (A : Int), .int .u64 (U : Int), .bool rd, .int .i64 (fe : Int), .int .i64 (us : Int), .bool ev, .bool al] 27 (0, 0))), (W.heap.size + 1, (.cells #[.int .u32 (t0 : Int), .int .u32 (t1 : Int), .int .u32 (t2 : Int)] 71 (0, 0)))]) rb2 F2 M a n c bs ∧ RamAt w15 F5 rb 8192 12012 (.pointer none) (askM (retM M N U us h0 t1) N U fe ev) ∧ w15.heap[qb]? = some (.cells #[.int .i64 s, .int .u64 (D : Int), .int .u64 (A : Int), .int .u64 (U : Int), .bool rd, .int .u16 (fe : Int), .int .u16 (u1 : Int), .bool ev, .bool al] 40 (0, 0)) ∧ ¬ F5 qb ∧ RefIn (fun k => F5 k ∨ k = qb) w15 (.slice ya yn yc) yn ys) := ⟨hs15, hr15, hq15, hn15, hy15⟩; clear hs15 hr15 hq15 hn15 hy15 X14)
  clear KA
  have KDA : Hid (Calls Tryz.prog 26 #[.agg #[.int .u64 8192, .slice ya yn yc], .agg #[.int .i64 s, .int .u64 (D : Int), .int .u64 (A : Int), .int .u64 (U : Int), .bool rd, .int .i64 (fe : Int), .int .i64 (u1 : Int), .bool ev, .bool al]] w15 fun r w' => ∃ za zn zc zs, r = .returned (.agg #[.int .u64 8192, .slice za zn zc]) ∧ zn ≤ yn + 2 ∧ RefIn (fun k => F5 k ∨ k = qb) w' (.slice za zn zc) zn zs ∧ (∀ q, rget zs zn q = (askM (retM M N U us h0 t1) N U fe ev) q) ∧ Rng zs zn 8192 ∧ Below w15.heap.size w15 w') := by
    rw [HG.out.1]
    exact dask_any X15.out.2.2.2.2 HY.out.2.1 HMR.out (by have := HY.out.1; have := HX.out.2.2.1; omega) (fun k hk => hk.elim (X15.out.2.1.lt k) (fun e => by rw [e]; exact (Array.getElem?_eq_some_iff.1 X15.out.2.2.1).1)) HY.out.2.2 HG.out.2 HFU.out.1
  obtain ⟨c0, c1, c2, c3, c4, c5, c6, c7, c8⟩ := box9_facts (X15.out.1.at (q := p15) (o := .cells #[.int .i64 s, .int .u64 (D : Int), .int .u64 (A : Int), .int .u64 (U : Int), .bool rd, .int .i64 (fe : Int), .int .i64 (u1 : Int), .bool ev, .bool al] 27 (0, 0)) (by simp))
  obtain ⟨r0, r1, _, _⟩ := box_facts (X15.out.1.at (q := p14) (o := .cells #[.int .u64 8192, .slice ya yn yc] 33 (0, 0)) (by simp))
  refine wp_region_list ?_
  (refine wpList_step (fun KK hKK => ?_); go_simp; refine hKK _ _ ?_; clear hKK KK)
  (refine wpList_step (fun KK hKK => ?_); go_simp; refine hKK _ _ ?_; clear hKK KK)
  refine wpList_step (fun KK hKK => ?_)
  go_simp
  refine (KDA.out).mono ?_
  rintro e w16 ⟨za, zn, zc, zs, rfl, hzn, hz, hgz, hrz, hb16⟩
  have X16 : Hid (Ss W w16 (fun k => F5 k ∨ k = qb) ((p15, (.cells #[.int .i64 s, .int .u64 (D : Int), .int .u64 (A : Int), .int .u64 (U : Int), .bool rd, .int .i64 (fe : Int), .int .i64 (u1 : Int), .bool ev, .bool al] 27 (0, 0))) :: (p14, (.cells #[.int .u64 8192, .slice ya yn yc] 33 (0, 0))) :: [(p, (.cells #[.int .u64 8192, .slice a n c] 33 (0, 0))), (W.heap.size, (.cells #[.int .i64 s, .int .u64 (D : Int), .int .u64 (A : Int), .int .u64 (U : Int), .bool rd, .int .i64 (fe : Int), .int .i64 (us : Int), .bool ev, .bool al] 27 (0, 0))), (W.heap.size + 1, (.cells #[.int .u32 (t0 : Int), .int .u32 (t1 : Int), .int .u32 (t2 : Int)] 71 (0, 0)))]) rb2 F2 M a n c bs ∧ RamAt w16 F5 rb 8192 12012 (.pointer none) (askM (retM M N U us h0 t1) N U fe ev) ∧ w16.heap[qb]? = some (.cells #[.int .i64 s, .int .u64 (D : Int), .int .u64 (A : Int), .int .u64 (U : Int), .bool rd, .int .u16 (fe : Int), .int .u16 (u1 : Int), .bool ev, .bool al] 40 (0, 0)) ∧ ¬ F5 qb ∧ RefIn (fun k => F5 k ∨ k = qb) w16 (.slice za zn zc) zn zs) := ⟨X15.out.1.below hb16, X15.out.2.1.below hb16, below_box X15.out.2.2.1 hb16, X15.out.2.2.2.1, hz⟩
  have HZ : Hid (zn ≤ n + 12 ∧ (∀ q, rget zs zn q = (askM (retM M N U us h0 t1) N U fe ev) q) ∧ Rng zs zn 8192) := ⟨by have := HY.out.1; omega, hgz, hrz⟩
  clear hzn hz hgz hrz hb16 X15 KDA c0 c1 c2 c3 c4 c5 c6 c7 c8 r0 r1
  refine hKK _ _ ?_
  clear hKK KK
  refine wpList_store_row rfl 33 _ _ rfl p14 #[.int .u64 8192, .slice za zn zc] rfl rfl 33 #[.int .u64 8192, .slice ya yn yc] (X16.out.1.at (q := p14) (o := .cells #[.int .u64 8192, .slice ya yn yc] 33 (0, 0)) (by simp)) infoDR rfl (by simp [Value.oneCell']) ?_
  have X17 : Hid (Ss W (w16.setRow p14 #[.int .u64 8192, .slice za zn zc]) (fun k => (fun k => F5 k ∨ k = qb) k ∨ k = p14) [(p, (.cells #[.int .u64 8192, .slice a n c] 33 (0, 0))), (W.heap.size, (.cells #[.int .i64 s, .int .u64 (D : Int), .int .u64 (A : Int), .int .u64 (U : Int), .bool rd, .int .i64 (fe : Int), .int .i64 (us : Int), .bool ev, .bool al] 27 (0, 0))), (W.heap.size + 1, (.cells #[.int .u32 (t0 : Int), .int .u32 (t1 : Int), .int .u32 (t2 : Int)] 71 (0, 0)))] rb2 F2 M a n c bs ∧ RamAt (w16.setRow p14 #[.int .u64 8192, .slice za zn zc]) F5 rb 8192 12012 (.pointer none) (askM (retM M N U us h0 t1) N U fe ev) ∧ (w16.setRow p14 #[.int .u64 8192, .slice za zn zc]).heap[qb]? = some (.cells #[.int .i64 s, .int .u64 (D : Int), .int .u64 (A : Int), .int .u64 (U : Int), .bool rd, .int .u16 (fe : Int), .int .u16 (u1 : Int), .bool ev, .bool al] 40 (0, 0)) ∧ ¬ F5 qb ∧ RefIn (fun k => F5 k ∨ k = qb) (w16.setRow p14 #[.int .u64 8192, .slice za zn zc]) (.slice za zn zc) zn zs ∧ (w16.setRow p14 #[.int .u64 8192, .slice za zn zc]).heap[p14]? = some (.cells #[.int .u64 8192, .slice za zn zc] 33 (0, 0)) ∧ p14 ≠ qb) := by
    obtain ⟨x1, x2, x3, x4, x5⟩ := X16.out
    have h14 := x1.at (q := p14) (o := .cells #[.int .u64 8192, .slice ya yn yc] 33 (0, 0)) (by simp)
    have hn14 := x1.not (q := p14) (o := .cells #[.int .u64 8192, .slice ya yn yc] 33 (0, 0)) (by simp)
    have base : Ss W w16 (fun k => F5 k ∨ k = qb) [(p, (.cells #[.int .u64 8192, .slice a n c] 33 (0, 0))), (W.heap.size, (.cells #[.int .i64 s, .int .u64 (D : Int), .int .u64 (A : Int), .int .u64 (U : Int), .bool rd, .int .i64 (fe : Int), .int .i64 (us : Int), .bool ev, .bool al] 27 (0, 0))), (W.heap.size + 1, (.cells #[.int .u32 (t0 : Int), .int .u32 (t1 : Int), .int .u32 (t2 : Int)] 71 (0, 0)))] rb2 F2 M a n c bs := ⟨⟨x1.1.1, fun x hx => x1.1.2.1 x (by simp at hx ⊢; exact .inr (.inr hx)), x1.1.2.2⟩, x1.2⟩
    have wd := base.wide (q := p14) HP.out.2.2 HP.out.2.1 HP.out.1 (fun z hz h0 => ref_ne base.2.2 h14 _ rfl not_byte_slice hz h0)
    exact ⟨wd.step (step_orR (step_row _ _ _)), x2.kept (by simp [World.setRow]) (fun k hk => setRow_other _ _ _ _ (fun e => hn14 (.inl (e ▸ hk)))), (setRow_other _ _ _ _ (fun e => hn14 (.inr e.symm))).trans x3, x4, x5.setRow (fun z hz h0 => ref_ne x5 h14 _ rfl not_byte_slice hz h0), setRow_heap _ _ _ _ _ _ h14, fun e => hn14 (.inr e)⟩
  clear X16 HP HMR HY
  generalize w16.setRow p14 #[.int .u64 8192, .slice za zn zc] = w17 at *
  go_upto_region 15 with fail
  have Xe : Hid (Ss W w17.drew (fun k => (fun k => F5 k ∨ k = qb) k ∨ k = p14) [(p, (.cells #[.int .u64 8192, .slice a n c] 33 (0, 0))), (W.heap.size, (.cells #[.int .i64 s, .int .u64 (D : Int), .int .u64 (A : Int), .int .u64 (U : Int), .bool rd, .int .i64 (fe : Int), .int .i64 (us : Int), .bool ev, .bool al] 27 (0, 0))), (W.heap.size + 1, (.cells #[.int .u32 (t0 : Int), .int .u32 (t1 : Int), .int .u32 (t2 : Int)] 71 (0, 0)))] rb2 F2 M a n c bs ∧ RamAt w17.drew F5 rb 8192 12012 (.pointer none) (askM (retM M N U us h0 t1) N U fe ev) ∧ w17.drew.heap[qb]? = some (.cells #[.int .i64 s, .int .u64 (D : Int), .int .u64 (A : Int), .int .u64 (U : Int), .bool rd, .int .u16 (fe : Int), .int .u16 (u1 : Int), .bool ev, .bool al] 40 (0, 0)) ∧ ¬ F5 qb ∧ RefIn (fun k => F5 k ∨ k = qb) w17.drew (.slice za zn zc) zn zs ∧ w17.drew.heap[p14]? = some (.cells #[.int .u64 8192, .slice za zn zc] 33 (0, 0))) := ⟨X17.out.1.below (Below.drew (Below.refl _ _)), X17.out.2.1.below (Below.drew (Below.refl _ _)), X17.out.2.2.1, X17.out.2.2.2.1, X17.out.2.2.2.2.1.below (Below.drew (Below.refl _ _)), X17.out.2.2.2.2.2.1⟩
  clear X17
  obtain ⟨l, hl, KD1, KD2⟩ := spans_both (ya := za) (yn := zn) (yc := zc) Xe.out.1.2.1.1 Xe.out.2.1 (by omega) Xe.out.1.2.2 Xe.out.2.2.2.2.1 HX.out.1 HZ.out.2.1 HX.out.2.1 HZ.out.2.2 HX.out.2.2.1 (by have := HZ.out.1; have := HX.out.2.2.1; omega) 5000
  have HD : Hid (l.length ≤ 10000 ∧ (∀ V', Below w17.drew.heap.size w17.drew V' → Calls Tryz.prog 14 #[.pointer (some ⟨rb2, 0, none⟩), .pointer (some ⟨rb, 0, none⟩), .int .i64 5000] V' fun e w' => ∃ v, e = .returned v ∧ SpanIn V'.heap.size w' v l ∧ Below V'.heap.size V' w') ∧ (∀ V', Below w17.drew.heap.size w17.drew V' → Calls Tryz.prog 15 #[.agg #[.int .u64 8192, .slice a n c], .agg #[.int .u64 8192, .slice za zn zc], .int .i64 5000] V' fun e w' => ∃ v, e = .returned v ∧ SpanIn V'.heap.size w' v l ∧ Below V'.heap.size V' w')) := ⟨hl, KD1, KD2⟩
  clear hl KD1 KD2
  refine wp_region_held_drew (S := fun Z => Z.cell? ⟨p, 0, none⟩ = some (.int .u64 8192) ∧ Z.cell? ⟨p, 1, none⟩ = some (.slice a n c) ∧ Z.cell? ⟨p14, 0, none⟩ = some (.int .u64 8192) ∧ Z.cell? ⟨p14, 1, none⟩ = some (.slice za zn zc)) (by kernel_rfl) ⟨cellOf (Xe.out.1.at (q := p) (o := (.cells #[.int .u64 8192, .slice a n c] 33 (0, 0))) (by simp)) 0 _ rfl, cellOf (Xe.out.1.at (q := p) (o := (.cells #[.int .u64 8192, .slice a n c] 33 (0, 0))) (by simp)) 1 _ rfl, cellOf Xe.out.2.2.2.2.2 0 _ rfl, cellOf Xe.out.2.2.2.2.2 1 _ rfl⟩ ?_
  intro hS
  generalize w17.drew = wd at *
  refine wpAnyH_take (i := 0) (v := ?_) rfl (by kernel_rfl) (by kernel_rfl) (by kernel_rfl) (fun _ _ _ h => h) (Or.inl ⟨by kernel_rfl, ?_⟩) hS ?_
  rotate_left
  · intro w hSw; (try dsimp only at hSw); go_simp; try (with_reducible rfl)
  (try simp only [Act.put, List.getElem_toArray, List.getElem_cons_succ, List.getElem_cons_zero, List.setIfInBounds_toArray, List.set_cons_zero, List.set_cons_succ])
  refine wpAnyH_take (i := 1) (v := ?_) rfl (by kernel_rfl) (by kernel_rfl) (by kernel_rfl) (fun _ _ _ h => h) (Or.inl ⟨by kernel_rfl, ?_⟩) hS ?_
  rotate_left
  · intro w hSw; (try dsimp only at hSw); go_simp; try (with_reducible rfl)
  (try simp only [Act.put, List.getElem_toArray, List.getElem_cons_succ, List.getElem_cons_zero, List.setIfInBounds_toArray, List.set_cons_zero, List.set_cons_succ])
  refine wpAnyH_take (i := 3) (v := ?_) rfl (by kernel_rfl) (by kernel_rfl) (by kernel_rfl) (fun _ _ _ h => h) (Or.inl ⟨by kernel_rfl, ?_⟩) hS ?_
  rotate_left
  · intro w hSw; (try dsimp only at hSw); go_simp; try (with_reducible rfl)
  (try simp only [Act.put, List.getElem_toArray, List.getElem_cons_succ, List.getElem_cons_zero, List.setIfInBounds_toArray, List.set_cons_zero, List.set_cons_succ])
  refine wpAnyH_take (i := 4) (v := ?_) rfl (by kernel_rfl) (by kernel_rfl) (by kernel_rfl) (fun _ _ _ h => h) (Or.inl ⟨by kernel_rfl, ?_⟩) hS ?_
  rotate_left
  · intro w hSw; (try dsimp only at hSw); go_simp; try (with_reducible rfl)
  (try simp only [Act.put, List.getElem_toArray, List.getElem_cons_succ, List.getElem_cons_zero, List.setIfInBounds_toArray, List.set_cons_zero, List.set_cons_succ])
  refine wpAnyH_ready (rs := [2]) (by kernel_rfl) (by simp) ?_
  refine AllReadyH.cons rfl (fun K1 hK1 => ?_) AllReadyH.nil
  go_simp
  refine (HD.out.2.1 _ (Below.refl _ _)).mono ?_
  rintro r w18 ⟨v5, rfl, hsp, hb⟩
  obtain ⟨ad, cd, rfl⟩ := hsp.form
  have X5 : Hid (SpanIn wd.heap.size w18 (.slice ad l.length cd) l ∧ Below wd.heap.size wd w18) := ⟨hsp, hb⟩
  clear hsp hb
  have hw18 := X5.out.2
  refine hK1.out _ _ ⟨cellOf (below_box (Xe.out.1.at (q := p) (o := (.cells #[.int .u64 8192, .slice a n c] 33 (0, 0))) (by simp)) hw18) 0 _ rfl, cellOf (below_box (Xe.out.1.at (q := p) (o := (.cells #[.int .u64 8192, .slice a n c] 33 (0, 0))) (by simp)) hw18) 1 _ rfl, cellOf (below_box Xe.out.2.2.2.2.2 hw18) 0 _ rfl, cellOf (below_box Xe.out.2.2.2.2.2 hw18) 1 _ rfl⟩ (fun h6 => ?_)
  clear hK1 K1 hS hw18
  (try simp only [Act.put, List.getElem_toArray, List.getElem_cons_succ, List.getElem_cons_zero, List.setIfInBounds_toArray, List.set_cons_zero, List.set_cons_succ])
  refine wpAnyH_ready (rs := [5]) (by kernel_rfl) (by simp) ?_
  refine AllReadyH.cons rfl (fun K1 hK1 => ?_) AllReadyH.nil
  go_simp
  refine (HD.out.2.2 _ X5.out.2).mono ?_
  rintro r w19 ⟨v7, rfl, hsp7, hb7⟩
  obtain ⟨av, cv, rfl⟩ := hsp7.form
  have X8 : Hid (SpanIn wd.heap.size w19 (.slice ad l.length cd) l ∧ SpanIn wd.heap.size w19 (.slice av l.length cv) l ∧ Below wd.heap.size wd w19) := ⟨X5.out.1.kept (fun q hq => hb7.block q (X5.out.1.lt q hq).2), span_base hsp7 X5.out.2.size, below_to X5.out.2 hb7⟩
  clear hsp7 hb7 X5
  have hw19 := X8.out.2.2
  refine hK1.out _ _ ⟨cellOf (below_box (Xe.out.1.at (q := p) (o := (.cells #[.int .u64 8192, .slice a n c] 33 (0, 0))) (by simp)) hw19) 0 _ rfl, cellOf (below_box (Xe.out.1.at (q := p) (o := (.cells #[.int .u64 8192, .slice a n c] 33 (0, 0))) (by simp)) hw19) 1 _ rfl, cellOf (below_box Xe.out.2.2.2.2.2 hw19) 0 _ rfl, cellOf (below_box Xe.out.2.2.2.2.2 hw19) 1 _ rfl⟩ (fun h9 => ?_)
  clear hK1 K1 h6 hw19
  (try simp only [Act.put, List.getElem_toArray, List.getElem_cons_succ, List.getElem_cons_zero, List.setIfInBounds_toArray, List.set_cons_zero, List.set_cons_succ])
  refine wpAnyH_ready (rs := [6]) (by kernel_rfl) (by simp) ?_
  refine AllReadyH.cons rfl (fun K1 hK1 => ?_) AllReadyH.nil
  go_simp
  refine (same_spans X8.out.1 X8.out.2.1 (by have := HD.out.1; omega)).mono ?_
  rintro r w20 ⟨rfl, qd, hq⟩
  have X9 : Hid (Below wd.heap.size wd w20) := by show Below wd.heap.size wd w20; rw [hq]; exact below_drewN X8.out.2.2 qd
  clear hq X8 HD
  have hw20 := X9.out
  refine hK1.out _ _ ⟨cellOf (below_box (Xe.out.1.at (q := p) (o := (.cells #[.int .u64 8192, .slice a n c] 33 (0, 0))) (by simp)) hw20) 0 _ rfl, cellOf (below_box (Xe.out.1.at (q := p) (o := (.cells #[.int .u64 8192, .slice a n c] 33 (0, 0))) (by simp)) hw20) 1 _ rfl, cellOf (below_box Xe.out.2.2.2.2.2 hw20) 0 _ rfl, cellOf (below_box Xe.out.2.2.2.2.2 hw20) 1 _ rfl⟩ (fun h10 => ?_)
  clear hK1 K1 h9 hw20
  (try simp only [Act.put, List.getElem_toArray, List.getElem_cons_succ, List.getElem_cons_zero, List.setIfInBounds_toArray, List.set_cons_zero, List.set_cons_succ])
  refine wpAnyH_take (i := 7) (v := ?_) rfl (by kernel_rfl) (by kernel_rfl) (by kernel_rfl) (fun _ _ _ h => h) (Or.inl ⟨by kernel_rfl, ?_⟩) h10 ?_
  rotate_left
  · intro w hSw; (try dsimp only at hSw); go_simp; try (with_reducible rfl)
  (try simp only [Act.put, List.getElem_toArray, List.getElem_cons_succ, List.getElem_cons_zero, List.setIfInBounds_toArray, List.set_cons_zero, List.set_cons_succ])
  refine wpAnyH_done (by kernel_rfl) ?_ _
  clear h10
  have X20 : Hid (w20.heap[qb]? = some (.cells #[.int .i64 s, .int .u64 (D : Int), .int .u64 (A : Int), .int .u64 (U : Int), .bool rd, .int .u16 (fe : Int), .int .u16 (u1 : Int), .bool ev, .bool al] 40 (0, 0)) ∧ Kq W w20 (fun k => (fun k => F5 k ∨ k = qb) k ∨ k = p14) []) := ⟨below_box Xe.out.2.2.1 X9.out, ⟨below_to Xe.out.1.1.1 X9.out, fun x hx => (by cases hx), Xe.out.1.1.2.2⟩⟩
  clear Xe X9
  go_upto_region 18 with (go_at_call 27; refine (reset_any X20.out.1).mono ?_; rintro r w21 ⟨rfl, hq21, hs21⟩; have X21 : Hid (w21.heap[qb]? = some (.cells #[.int .i64 0, .int .u64 0, .int .u64 0, .int .u64 0, .bool false, .int .u16 0, .int .u16 0, .bool false, .bool false] 40 (0, 0)) ∧ Below W.heap.size W w21) := ⟨hq21, X20.out.2.1.trans (hs21.below X20.out.2.1.size (fun k hk => by rw [hk]; exact X20.out.2.2.2 qb (.inl (.inr rfl))))⟩; clear hq21 hs21 X20)
  obtain ⟨c0, c1, c2, c3, c4, c5, c6, c7, c8⟩ := box9_facts X21.out.1
  go_wp2_with fail
  go_ret
  exact ⟨rfl, X21.out.2⟩
end Go.Proofs.YtmjdnocilbnoaaaGreat
