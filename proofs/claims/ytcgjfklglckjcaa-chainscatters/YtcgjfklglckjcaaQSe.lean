/- ChainScatters. -/
import Derived.Test.YtcgjfklglckjcaaSb
import Derived.Test.YtcgjfklglckjcaaPq
import Derived.Test.YtcgjfklglckjcaaDd
import Derived.Test.YtcgjfklglckjcaaHb
namespace Go.Proofs.Ytcgjfklglckjcaa
open Go.RowKit Go.Maps
set_option linter.unusedVariables false
set_option linter.unusedSimpArgs false
set_option maxRecDepth 100000
theorem seg_base {B C : Nat} {w : World} {v : Value} {l : List Seg} (h : SegIn B w v l) (hc : C ≤ B) : SegIn C w v l := by
  refine ⟨h.1, ?_⟩
  rcases h.2 with hn | ⟨g, cap, cur, rfl, hb, rest⟩
  · exact .inl hn
  · exact .inr ⟨g, cap, cur, rfl, Nat.le_trans hc hb, rest⟩
theorem seg_rise {C : Nat} {w : World} {v : Value} {l : List Seg} (h : SegIn 0 w v l) (hc : ∀ g, v.ownBlock = some g → C ≤ g) : SegIn C w v l := by
  refine ⟨h.1, ?_⟩
  rcases h.2 with hn | ⟨g, cap, cur, rfl, hb, rest⟩
  · exact .inl hn
  · exact .inr ⟨g, cap, cur, rfl, hc g rfl, rest⟩
theorem span_base {B C : Nat} {w : World} {v : Value} {l : List (Nat × Nat)} (h : SpanIn B w v l) (hc : C ≤ B) : SpanIn C w v l := by
  refine ⟨h.1, ?_⟩
  rcases h.2 with hn | ⟨g, cap, cur, rfl, hb, rest⟩
  · exact .inl hn
  · exact .inr ⟨g, cap, cur, rfl, Nat.le_trans hc hb, rest⟩
theorem seg_step {B : Nat} {w w2 : World} {F F2 : Nat → Prop} {v : Value} {l : List Seg} (h : SegIn B w v l) (hs : Step F w F2 w2) (hn : ∀ k, F k → k < B) : SegIn B w2 v l := h.kept (fun g hg => hs.block g (h.lt g hg).2 (fun hf => by have := hn g hf; have := (h.lt g hg).1; omega))
theorem box_step {w w2 : World} {F F2 : Nat → Prop} {q : Nat} {o : Obj} (h : w.heap[q]? = some o) (hs : Step F w F2 w2) (hn : ¬ F q) : w2.heap[q]? = some o := (hs.block q (Array.getElem?_eq_some_iff.1 h).1 hn).trans h
theorem reads_up {W V : World} {F : Nat → Prop} {v : Value} {n : Nat} {g : Nat → Nat} (h : ReadsF (fun q => W.heap.size ≤ q) W v n g) (hb : Below W.heap.size W V) (hF : ∀ k, F k → W.heap.size ≤ k) : ReadsF F V v n g := by
  rcases h with h | ⟨b, off, cap, h1, h2, h3, h4, hc⟩
  · exact .inl h
  · have hlt : b < W.heap.size := by
      by_cases hb' : b < W.heap.size
      · exact hb'
      · exact absurd (by show W.heap.size ≤ b; omega) h2
    exact .inr ⟨b, off, cap, h1, fun hq => by have := hF _ hq; omega, h3, h4, fun i hi => (hb.cell (p := ⟨b, off + i, none⟩) hlt).trans (hc i hi)⟩
set_option maxHeartbeats 8000000 in
theorem scatters_core (W : World) (v : Value) (len : Nat) (ps : Nat → PutD) (hws : PutsIn W v len ps) (s : Int) (D A Uu : Nat) (hd : Int) (al : Bool) (hD : D < 18446744073709551616) (hA : A < 18446744073709551616) (hU : Uu < 18446744073709551616) (wf : Nat) (da : Option Addr) (dn dc : Nat) (g : Nat → Nat) (hwf : wf < 18446744073709551616) (hg : ∀ i, g i ≤ 255) (hdr : ReadsF (fun q => W.heap.size ≤ q) W (.slice da dn dc) dn g) : Calls Try.prog 7 #[v, .agg #[.int .i64 s, .int .u64 (D : Int), .int .u64 (A : Int), .int .u64 (Uu : Int), .int .i64 hd, .bool al], .agg #[.int .u64 (wf : Int), .slice da dn dc]] W fun e w' => e = .returned (.bool true) ∧ Below W.heap.size W w' := by
  have HWD : Hid (wf < 18446744073709551616 ∧ (∀ i, g i ≤ 255) ∧ ReadsF (fun q => W.heap.size ≤ q) W (.slice da dn dc) dn g) := ⟨hwf, hg, hdr⟩
  clear hwf hg hdr
  have X0 : Hid (Sm W ((W.alloc (.cells #[.int .i64 s, .int .u64 (D : Int), .int .u64 (A : Int), .int .u64 (Uu : Int), .int .i64 hd, .bool al] 27)).alloc (.cells #[.int .u64 (wf : Int), .slice da dn dc] 71)) s D A Uu hd al ∧ ((W.alloc (.cells #[.int .i64 s, .int .u64 (D : Int), .int .u64 (A : Int), .int .u64 (Uu : Int), .int .i64 hd, .bool al] 27)).alloc (.cells #[.int .u64 (wf : Int), .slice da dn dc] 71)).heap[W.heap.size + 1]? = some (.cells #[.int .u64 (wf : Int), .slice da dn dc] 71 (0, 0))) := two_inB W _ _
  have HW : Hid (PutsIn W v len ps) := hws
  have HU : Hid (D < 18446744073709551616 ∧ A < 18446744073709551616 ∧ Uu < 18446744073709551616) := ⟨hD, hA, hU⟩
  clear hws hD hA hU
  go_enter Try.func7, Try.ntmps7
  go_upto_region 1 with fail
  generalize (W.alloc (.cells #[.int .i64 s, .int .u64 (D : Int), .int .u64 (A : Int), .int .u64 (Uu : Int), .int .i64 hd, .bool al] 27)).alloc (.cells #[.int .u64 (wf : Int), .slice da dn dc] 71) = v0 at *
  go_upto_region 3 with (go_at_call 9; refine (awake_any _).mono ?_; rintro e w1 ⟨rfl, hb1⟩; have X1 : Hid (Sm W w1 s D A Uu hd al ∧ w1.heap[W.heap.size + 1]? = some (.cells #[.int .u64 (wf : Int), .slice da dn dc] 71 (0, 0))) := ⟨X0.out.1.below hb1, below_box X0.out.2 hb1⟩; clear hb1 X0)
  go_upto_region 4 with (go_at_call 10; refine (memory_any _ len ps _ (HW.out.up X1.out.1.2)).mono ?_; rintro e w2 ⟨pv, a, n, c, rfl, hb2, hor⟩; have X2 : Hid (Sm W w2 s D A Uu hd al ∧ w2.heap[W.heap.size + 1]? = some (.cells #[.int .u64 (wf : Int), .slice da dn dc] 71 (0, 0))) := ⟨X1.out.1.below hb2, below_box X1.out.2 hb2⟩)
  have hb3 : Below w2.heap.size w2 (w2.alloc (.cells #[.int .u64 8192, .slice a n c] 32)) := (Below.refl _ _).alloc (Nat.le_refl _) _
  have X3 : Hid ((Sp W (w2.alloc (.cells #[.int .u64 8192, .slice a n c] 32)) s D A Uu hd al w2.heap.size a n c) ∧ (w2.alloc (.cells #[.int .u64 8192, .slice a n c] 32)).heap[W.heap.size + 1]? = some (.cells #[.int .u64 (wf : Int), .slice da dn dc] 71 (0, 0))) := ⟨⟨X2.out.1.below hb3, heap_alloc_new _ _⟩, below_box X2.out.2 hb3⟩
  have Z3 : Hid ((pv = .pointer none ∧ 0 < len) ∨ ∃ rb F M, pv = .pointer (some ⟨rb, 0, none⟩) ∧ Both F (w2.alloc (.cells #[.int .u64 8192, .slice a n c] 32)) rb 8192 (.slice a n c) 12000 M ∧ (∀ k, F k → W.heap.size + 1 < k) ∧ ¬ F w2.heap.size) := hor.imp id (fun ⟨rb, F, M, h1, h2, h3⟩ => ⟨rb, F, M, h1, h2.below hb3, fun k hk => Nat.lt_of_lt_of_le (Array.getElem?_eq_some_iff.1 X1.out.2).1 (h3 k hk), fun hf => by have := h2.1.lt _ hf; omega⟩)
  clear hor hb2 hb3 X1 X2
  generalize w2.alloc (.cells #[.int .u64 8192, .slice a n c] 32) = w3 at *
  generalize w2.heap.size = p at *
  obtain ⟨a0, a1, a2, a3, a4, a5⟩ := box6_facts X3.out.1.1.1
  obtain ⟨r0, r1, _, _⟩ := box_facts X3.out.1.2
  rcases Z3.out with ⟨rfl, _⟩ | ⟨rb, F, M, rfl, hB, hF, hFp⟩
  · clear Z3
    go_wp2_with fail
    go_ret
    exact ⟨rfl, X3.out.1.1.2⟩
  have HB : Hid (Both F w3 rb 8192 (.slice a n c) 12000 M ∧ (∀ k, F k → W.heap.size + 1 < k) ∧ ¬ F p) := ⟨hB, hF, hFp⟩
  clear hB hF hFp Z3
  obtain ⟨ce, hce⟩ : ∃ ce, chkN s D A Uu 8192 = ce := ⟨_, rfl⟩
  have K11 : Hid (∀ V, Calls Try.prog 11 #[.agg #[.int .u64 8192, .slice a n c], .agg #[.int .i64 s, .int .u64 (D : Int), .int .u64 (A : Int), .int .u64 (Uu : Int)]] V fun e w' => e = .returned (.int .i64 ce) ∧ Below V.heap.size V w') := by
    intro V
    rw [← hce]
    exact rcheck_any HU.out.1 HU.out.2.1 HU.out.2.2 8192 (by omega) a n c V
  by_cases hc0 : ce = 0
  case neg =>
    have q1 : (ce != 0) = true := by simp [hc0]
    clear hc0 hce
    go_wp2_with (go_at_call 11; refine (K11.out _).mono ?_; rintro e w4 ⟨rfl, hb4⟩; have X4 : Hid (Below W.heap.size W w4) := below_to X3.out.1.1.2 hb4; clear hb4)
    go_ret
    exact ⟨rfl, X4.out⟩
  subst hc0
  obtain ⟨k, rfl, hk1, hk2, _⟩ := chk_zero hce
  have HCH : Hid (chkN (k : Int) D A Uu 8192 = 0) := hce
  clear hce hk1
  by_cases hbig : 100 < dn
  case pos =>
    have hb1 : (100 : Int) < (dn : Int) := by omega
    clear hbig
    go_wp2_with (go_at_call 11; refine (K11.out _).mono ?_; rintro e w4 ⟨rfl, hb4⟩; have X4 : Hid ((Sp W w4 (k : Int) D A Uu hd al p a n c) ∧ w4.heap[W.heap.size + 1]? = some (.cells #[.int .u64 (wf : Int), .slice da dn dc] 71 (0, 0))) := ⟨X3.out.1.below hb4, below_box X3.out.2 hb4⟩; clear hb4 a0 a1 a2 a3 a4 a5 r0 r1; obtain ⟨t0, t1, _, _⟩ := box_facts X4.out.2)
    go_ret
    exact ⟨rfl, X4.out.1.1.2⟩
  have hb1 : ¬ (100 : Int) < (dn : Int) := by omega
  have hdn : dn ≤ 100 := by omega
  clear hbig
  go_upto_region 6 with (go_at_call 11; refine (K11.out _).mono ?_; rintro e w4 ⟨rfl, hb4⟩; have X4 : Hid ((Sp W w4 (k : Int) D A Uu hd al p a n c) ∧ w4.heap[W.heap.size + 1]? = some (.cells #[.int .u64 (wf : Int), .slice da dn dc] 71 (0, 0))) := ⟨X3.out.1.below hb4, below_box X3.out.2 hb4⟩; have HB4 : Hid (Both F w4 rb 8192 (.slice a n c) 12000 M ∧ (∀ k, F k → W.heap.size + 1 < k) ∧ ¬ F p) := ⟨HB.out.1.below hb4, HB.out.2⟩; clear hb4 a0 a1 a2 a3 a4 a5 r0 r1; obtain ⟨t0, t1, _, _⟩ := box_facts X4.out.2)
  clear t0 t1
  clear X3 HB K11
  have HDD : Hid (DDesc w4 a n c M ∧ ∀ a, M a ≤ 255) := ⟨both_ddesc HB4.out.1 (by omega), HB4.out.1.1.le⟩
  obtain ⟨⟨we, wl, wta, wtl⟩, hwk⟩ : ∃ q, walkR M D k hd al = q := ⟨_, rfl⟩
  have hall := walk_all HDD.out.2 D k hk2 hd al
  rw [hwk] at hall
  have HL : Hid (wl.length ≤ 1000 ∧ ∀ s ∈ wl, SegOk s) := ⟨Nat.le_trans hall.2.1 (by decide), hall.1⟩
  have K12 : Hid (∀ V, Below w4.heap.size w4 V → Calls Try.prog 12 #[.pointer (some ⟨rb, 0, none⟩), .agg #[.int .i64 (k : Int), .int .u64 (D : Int), .int .u64 (A : Int), .int .u64 (Uu : Int)], .int .i64 hd, .bool al] V fun e w' => ∃ a1 c1, e = .returned (.tuple #[.agg #[.slice a1 wl.length c1, .int .u64 (wta : Int), .int .u64 (wtl : Int)], .int .i64 (we : Int)]) ∧ SegIn w4.heap.size w' (.slice a1 wl.length c1) wl ∧ Below V.heap.size V w') := by
    intro V hV
    have := walk_nil (HB4.out.1.1.below hV) k D A Uu hk2 hd al
    rw [hwk] at this
    refine this.mono ?_
    rintro e w' ⟨v, he, hs, hb⟩
    obtain ⟨a1, c1, rfl⟩ := hs.form
    exact ⟨a1, c1, he, seg_base hs hV.size, hb⟩
  have K13 : Hid (∀ V, Below w4.heap.size w4 V → Calls Try.prog 13 #[.agg #[.int .u64 8192, .slice a n c], .agg #[.int .i64 (k : Int), .int .u64 (D : Int), .int .u64 (A : Int), .int .u64 (Uu : Int)], .int .i64 hd, .bool al] V fun e w' => ∃ a2 c2, e = .returned (.tuple #[.agg #[.slice a2 wl.length c2, .int .u64 (wta : Int), .int .u64 (wtl : Int)], .int .i64 (we : Int)]) ∧ SegIn w4.heap.size w' (.slice a2 wl.length c2) wl ∧ Below V.heap.size V w') := by
    intro V hV
    have := dwalk_row HDD.out.2 HDD.out.1 k D A Uu hk2 hd al hV
    rw [hwk] at this
    refine this.mono ?_
    rintro e w' ⟨a2, L2, c2, he, hs, hb, hro⟩
    obtain ⟨a3, c3, h3⟩ := hs.form
    simp only [Value.slice.injEq] at h3
    obtain ⟨rfl, rfl, rfl⟩ := h3
    exact ⟨_, _, he, seg_rise hs (fun g hg => Nat.le_trans hV.size (hro g hg)), hb⟩
  clear hall hwk HCH HU HW hk2
  obtain ⟨L, hL⟩ : ∃ L, wl.length = L := ⟨_, rfl⟩
  rw [hL] at K12 K13
  clear hL
  obtain ⟨a0, a1, a2, a3, a4, a5⟩ := box6_facts X4.out.1.1.1
  go_upto_region 7 with (go_at_call 12; refine (K12.out _ (Below.refl _ _)).mono ?_; rintro e w5 ⟨s1, c1, rfl, hs5, hb5⟩; have X5 : Hid ((Sp W w5 (k : Int) D A Uu hd al p a n c ∧ w5.heap[W.heap.size + 1]? = some (.cells #[.int .u64 (wf : Int), .slice da dn dc] 71 (0, 0))) ∧ SegIn w4.heap.size w5 (.slice s1 L c1) wl ∧ Below w4.heap.size w4 w5) := ⟨⟨X4.out.1.below hb5, below_box X4.out.2 hb5⟩, hs5, hb5⟩; clear hb5 hs5 a0 a1 a2 a3 a4 a5 X4)
  have hb6 : Below w5.heap.size w5 (w5.alloc (.cells #[.slice s1 L c1, .int .u64 (wta : Int), .int .u64 (wtl : Int)] 40)) := (Below.refl _ _).alloc (Nat.le_refl _) _
  have X6 : Hid ((Sp W (w5.alloc (.cells #[.slice s1 L c1, .int .u64 (wta : Int), .int .u64 (wtl : Int)] 40)) (k : Int) D A Uu hd al p a n c ∧ (w5.alloc (.cells #[.slice s1 L c1, .int .u64 (wta : Int), .int .u64 (wtl : Int)] 40)).heap[W.heap.size + 1]? = some (.cells #[.int .u64 (wf : Int), .slice da dn dc] 71 (0, 0))) ∧ SegIn w4.heap.size (w5.alloc (.cells #[.slice s1 L c1, .int .u64 (wta : Int), .int .u64 (wtl : Int)] 40)) (.slice s1 L c1) wl ∧ Below w4.heap.size w4 (w5.alloc (.cells #[.slice s1 L c1, .int .u64 (wta : Int), .int .u64 (wtl : Int)] 40)) ∧ (w5.alloc (.cells #[.slice s1 L c1, .int .u64 (wta : Int), .int .u64 (wtl : Int)] 40)).heap[w5.heap.size]? = some (.cells #[.slice s1 L c1, .int .u64 (wta : Int), .int .u64 (wtl : Int)] 40 (0, 0)) ∧ w4.heap.size ≤ w5.heap.size) := ⟨⟨X5.out.1.1.below hb6, below_box X5.out.1.2 hb6⟩, (X5.out.2.1).kept (fun g hg => hb6.block g ((X5.out.2.1).lt g hg).2), below_to X5.out.2.2 hb6, heap_alloc_new _ _, X5.out.2.2.size⟩
  clear hb6 X5
  generalize w5.alloc (.cells #[.slice s1 L c1, .int .u64 (wta : Int), .int .u64 (wtl : Int)] 40) = w6 at *
  generalize w5.heap.size = q1 at *
  obtain ⟨a0, a1, a2, a3, a4, a5⟩ := box6_facts X6.out.1.1.1.1
  obtain ⟨r0, r1, _, _⟩ := box_facts X6.out.1.1.2
  go_upto_region 8 with (go_at_call 13; refine (K13.out _ X6.out.2.2.1).mono ?_; rintro e w7 ⟨s2, c2, rfl, hs7, hb7⟩; have X7 : Hid ((Sp W w7 (k : Int) D A Uu hd al p a n c ∧ w7.heap[W.heap.size + 1]? = some (.cells #[.int .u64 (wf : Int), .slice da dn dc] 71 (0, 0))) ∧ SegIn w4.heap.size w7 (.slice s1 L c1) wl ∧ SegIn w4.heap.size w7 (.slice s2 L c2) wl ∧ Below w4.heap.size w4 w7 ∧ w7.heap[q1]? = some (.cells #[.slice s1 L c1, .int .u64 (wta : Int), .int .u64 (wtl : Int)] 40 (0, 0)) ∧ w4.heap.size ≤ q1) := ⟨⟨X6.out.1.1.below hb7, below_box X6.out.1.2 hb7⟩, (X6.out.2.1).kept (fun g hg => hb7.block g ((X6.out.2.1).lt g hg).2), hs7, below_to X6.out.2.2.1 hb7, below_box X6.out.2.2.2.1 hb7, X6.out.2.2.2.2⟩; clear hb7 hs7 a0 a1 a2 a3 a4 a5 r0 r1)
  clear X6
  have hb8 : Below w7.heap.size w7 (w7.alloc (.cells #[.slice s2 L c2, .int .u64 (wta : Int), .int .u64 (wtl : Int)] 44)) := (Below.refl _ _).alloc (Nat.le_refl _) _
  have X8 : Hid ((Sp W (w7.alloc (.cells #[.slice s2 L c2, .int .u64 (wta : Int), .int .u64 (wtl : Int)] 44)) (k : Int) D A Uu hd al p a n c ∧ (w7.alloc (.cells #[.slice s2 L c2, .int .u64 (wta : Int), .int .u64 (wtl : Int)] 44)).heap[W.heap.size + 1]? = some (.cells #[.int .u64 (wf : Int), .slice da dn dc] 71 (0, 0))) ∧ (SegIn w4.heap.size (w7.alloc (.cells #[.slice s2 L c2, .int .u64 (wta : Int), .int .u64 (wtl : Int)] 44)) (.slice s1 L c1) wl ∧ SegIn w4.heap.size (w7.alloc (.cells #[.slice s2 L c2, .int .u64 (wta : Int), .int .u64 (wtl : Int)] 44)) (.slice s2 L c2) wl) ∧ Below w4.heap.size w4 (w7.alloc (.cells #[.slice s2 L c2, .int .u64 (wta : Int), .int .u64 (wtl : Int)] 44)) ∧ (w7.alloc (.cells #[.slice s2 L c2, .int .u64 (wta : Int), .int .u64 (wtl : Int)] 44)).heap[q1]? = some (.cells #[.slice s1 L c1, .int .u64 (wta : Int), .int .u64 (wtl : Int)] 40 (0, 0)) ∧ (w7.alloc (.cells #[.slice s2 L c2, .int .u64 (wta : Int), .int .u64 (wtl : Int)] 44)).heap[w7.heap.size]? = some (.cells #[.slice s2 L c2, .int .u64 (wta : Int), .int .u64 (wtl : Int)] 44 (0, 0)) ∧ w4.heap.size ≤ q1 ∧ w4.heap.size ≤ w7.heap.size) := ⟨⟨X7.out.1.1.below hb8, below_box X7.out.1.2 hb8⟩, ⟨(X7.out.2.1).kept (fun g hg => hb8.block g ((X7.out.2.1).lt g hg).2), (X7.out.2.2.1).kept (fun g hg => hb8.block g ((X7.out.2.2.1).lt g hg).2)⟩, below_to X7.out.2.2.2.1 hb8, below_box X7.out.2.2.2.2.1 hb8, heap_alloc_new _ _, X7.out.2.2.2.2.2, X7.out.2.2.2.1.size⟩
  clear hb8 X7
  generalize w7.alloc (.cells #[.slice s2 L c2, .int .u64 (wta : Int), .int .u64 (wtl : Int)] 44) = w8 at *
  generalize w7.heap.size = q2 at *
  by_cases hz : we = 0
  case neg =>
    have g1 : ((we : Int) != 0) = true := by simp; omega
    have g2 : ((we : Int) == 0) = false := by simp; omega
    clear hz
    go_wp2_with fail
    go_ret
    exact ⟨ret_bool (by simp), X8.out.1.1.1.2⟩
  subst hz
  have HFL : Hid (∀ z, F z → z < w4.heap.size) := HB4.out.1.1.lt
  go_upto_region 11 with (go_at_call 15; refine (copy_any (HB4.out.1.1.below X8.out.2.2.1) (by omega)).mono ?_; rintro e w9 ⟨rb2, F2, rfl, hr2, hF2, hb9⟩; have X9 : Hid ((Sp W w9 (k : Int) D A Uu hd al p a n c ∧ w9.heap[W.heap.size + 1]? = some (.cells #[.int .u64 (wf : Int), .slice da dn dc] 71 (0, 0))) ∧ (SegIn w4.heap.size w9 (.slice s1 L c1) wl ∧ SegIn w4.heap.size w9 (.slice s2 L c2) wl) ∧ Below w4.heap.size w4 w9 ∧ w9.heap[q1]? = some (.cells #[.slice s1 L c1, .int .u64 (wta : Int), .int .u64 (wtl : Int)] 40 (0, 0)) ∧ w9.heap[q2]? = some (.cells #[.slice s2 L c2, .int .u64 (wta : Int), .int .u64 (wtl : Int)] 44 (0, 0)) ∧ w4.heap.size ≤ q1 ∧ w4.heap.size ≤ q2) := ⟨⟨X8.out.1.1.below hb9, below_box X8.out.1.2 hb9⟩, ⟨(X8.out.2.1.1).kept (fun g hg => hb9.block g ((X8.out.2.1.1).lt g hg).2), (X8.out.2.1.2).kept (fun g hg => hb9.block g ((X8.out.2.1.2).lt g hg).2)⟩, below_to X8.out.2.2.1 hb9, below_box X8.out.2.2.2.1 hb9, below_box X8.out.2.2.2.2.1 hb9, X8.out.2.2.2.2.2⟩; have R9 : Hid (RamAt w9 F2 rb2 8192 12000 (.pointer none) M ∧ ∀ z, F2 z → w4.heap.size ≤ z) := ⟨hr2, fun z hz => Nat.le_trans X8.out.2.2.1.size (hF2 z hz)⟩; clear hr2 hF2 hb9)
  clear X8
  obtain ⟨rm, hrm⟩ : ∃ rm, roomB true wl wf dn = rm := ⟨_, rfl⟩
  obtain ⟨Mx, hMx⟩ : ∃ Mx, (if roomB true wl wf dn = true then layS g (scaL wl wf dn) 0 M else M) = Mx := ⟨_, rfl⟩
  have K25 : Hid (Calls Try.prog 25 #[.agg #[.slice s1 L c1, .int .u64 (wta : Int), .int .u64 (wtl : Int)], .pointer (some ⟨rb, 0, none⟩), .int .u64 (wf : Int), .slice da dn dc] w9 fun e w' => e = .returned (.bool rm) ∧ ∃ F', RamAt w' F' rb 8192 (12000 + dn) (.pointer none) Mx ∧ Step F w9 F' w') := by
    have := scatter_any (HB4.out.1.1.below X9.out.2.2.1) (by omega) X9.out.2.1.1.low HL.out.1 HL.out.2 wta wtl wf dn HWD.out.1 hdn g HWD.out.2.1 da dc (reads_up HWD.out.2.2 X9.out.1.1.1.2 (fun z hz => by have := HB4.out.2.1 z hz; omega))
    rw [hMx, hrm] at this
    exact this
  obtain ⟨b0, b1, b2⟩ := box3_facts X9.out.2.2.2.1
  obtain ⟨t0, t1, _, _⟩ := box_facts X9.out.1.2
  go_upto_region 12 with (go_at_call 25; refine (K25.out).mono ?_; rintro e w10 ⟨rfl, F', hr10, hs10⟩; have XAA : Hid (Below W.heap.size W w10 ∧ w10.heap[p]? = some (.cells #[.int .u64 8192, .slice a n c] 32 (0, 0)) ∧ w10.heap[W.heap.size + 1]? = some (.cells #[.int .u64 (wf : Int), .slice da dn dc] 71 (0, 0)) ∧ SegIn w4.heap.size w10 (.slice s2 L c2) wl ∧ w10.heap[q2]? = some (.cells #[.slice s2 L c2, .int .u64 (wta : Int), .int .u64 (wtl : Int)] 44 (0, 0)) ∧ w9.heap.size ≤ w10.heap.size) := ⟨X9.out.1.1.1.2.trans (hs10.below X9.out.1.1.1.2.size (fun z hz => by have := HB4.out.2.1 z hz; omega)), box_step X9.out.1.1.2 hs10 HB4.out.2.2, box_step X9.out.1.2 hs10 (fun hf => by have := HB4.out.2.1 _ hf; omega), seg_step X9.out.2.1.2 hs10 HFL.out, box_step X9.out.2.2.2.2.1 hs10 (fun hf => by have := HFL.out _ hf; have := X9.out.2.2.2.2.2.2; omega), hs10.size⟩; have RA : Hid (RamAt w10 F' rb 8192 (12000 + dn) (.pointer none) Mx ∧ RamAt w10 F2 rb2 8192 12000 (.pointer none) M ∧ Step F w9 F' w10) := ⟨hr10, R9.out.1.step hs10 (fun z hz hf => by have := HFL.out z hf; have := R9.out.2 z hz; omega), hs10⟩; clear hr10 hs10 b0 b1 b2 t0 t1)
  clear K25
  have hboth := HB4.out.1.below X9.out.2.2.1
  obtain ⟨nb, bs, hnb, ⟨a', c', hsl⟩, href, hget, hrng⟩ := hboth.2
  simp only [Value.slice.injEq] at hsl
  obtain ⟨rfl, rfl, rfl⟩ := hsl
  have HD0 : Hid (RefIn F' w10 (.slice a n c) n bs ∧ (∀ q, rget bs n q = M q) ∧ Rng bs n 8192 ∧ n ≤ 12000) := ⟨href.step RA.out.2.2, hget, hrng, hnb⟩
  have K26 : Hid (Calls Try.prog 26 #[.agg #[.int .u64 8192, .slice a n c], .agg #[.slice s2 L c2, .int .u64 (wta : Int), .int .u64 (wtl : Int)], .int .u64 (wf : Int), .slice da dn dc] w10 fun e w' => ∃ xa xn xc xs, e = .returned (.tuple #[.agg #[.int .u64 8192, .slice xa xn xc], .bool rm]) ∧ xn ≤ n + dn ∧ RefIn F' w' (.slice xa xn xc) xn xs ∧ (∀ q, rget xs xn q = Mx q) ∧ Rng xs xn 8192 ∧ Below w10.heap.size w10 w') := by
    have := dscatter_any (F := F') RA.out.1.lt HD0.out.1 HD0.out.2.1 HD0.out.2.2.1 (by have := HD0.out.2.2.2; omega) XAA.out.2.2.2.1.low HL.out.1 HL.out.2 wta wtl wf dn HWD.out.1 hdn g HWD.out.2.1 da dc (reads_up HWD.out.2.2 XAA.out.1 (fun z hz => by
      rcases RA.out.2.2.old z hz with h1 | h1
      · have := HB4.out.2.1 z h1; omega
      · have := X9.out.1.1.1.2.size; omega))
    rw [hMx, hrm] at this
    exact this
  clear hMx hrm hboth href hget hrng hnb X9 R9
  obtain ⟨b0, b1, b2⟩ := box3_facts XAA.out.2.2.2.2.1
  obtain ⟨t0, t1, _, _⟩ := box_facts XAA.out.2.2.1
  obtain ⟨r0, r1, _, _⟩ := box_facts XAA.out.2.1
  go_upto_region 13 with (go_at_call 26; refine (K26.out).mono ?_; rintro e w11 ⟨xa, xn, xc, xs, rfl, hxn, hrx, hgx, hrgx, hb11⟩; have XB : Hid (Below W.heap.size W w11 ∧ w11.heap[p]? = some (.cells #[.int .u64 8192, .slice a n c] 32 (0, 0))) := ⟨below_to XAA.out.1 hb11, below_box XAA.out.2.1 hb11⟩; have RB : Hid (RamAt w11 F' rb 8192 (12000 + dn) (.pointer none) Mx ∧ RamAt w11 F2 rb2 8192 12000 (.pointer none) M) := ⟨RA.out.1.below hb11, RA.out.2.1.below hb11⟩; have HD : Hid (RefIn F' w11 (.slice a n c) n bs ∧ RefIn F' w11 (.slice xa xn xc) xn xs ∧ (∀ q, rget xs xn q = Mx q) ∧ Rng xs xn 8192 ∧ xn ≤ n + dn) := ⟨HD0.out.1.below hb11, hrx, hgx, hrgx, hxn⟩; clear hxn hrx hgx hrgx hb11 b0 b1 b2 t0 t1 r0 r1)
  clear K26 XAA RA
  have hb12 : Below w11.heap.size w11 (w11.alloc (.cells #[.int .u64 8192, .slice xa xn xc] 32)) := (Below.refl _ _).alloc (Nat.le_refl _) _
  have XC : Hid (Below W.heap.size W (w11.alloc (.cells #[.int .u64 8192, .slice xa xn xc] 32)) ∧ (w11.alloc (.cells #[.int .u64 8192, .slice xa xn xc] 32)).heap[p]? = some (.cells #[.int .u64 8192, .slice a n c] 32 (0, 0)) ∧ (w11.alloc (.cells #[.int .u64 8192, .slice xa xn xc] 32)).heap[w11.heap.size]? = some (.cells #[.int .u64 8192, .slice xa xn xc] 32 (0, 0)) ∧ (RamAt (w11.alloc (.cells #[.int .u64 8192, .slice xa xn xc] 32)) F' rb 8192 (12000 + dn) (.pointer none) Mx ∧ RamAt (w11.alloc (.cells #[.int .u64 8192, .slice xa xn xc] 32)) F2 rb2 8192 12000 (.pointer none) M) ∧ (RefIn F' (w11.alloc (.cells #[.int .u64 8192, .slice xa xn xc] 32)) (.slice a n c) n bs ∧ RefIn F' (w11.alloc (.cells #[.int .u64 8192, .slice xa xn xc] 32)) (.slice xa xn xc) xn xs)) := ⟨below_to XB.out.1 hb12, below_box XB.out.2 hb12, heap_alloc_new _ _, ⟨RB.out.1.below hb12, RB.out.2.below hb12⟩, ⟨HD.out.1.below hb12, HD.out.2.1.below hb12⟩⟩
  clear hb12 XB RB
  generalize w11.alloc (.cells #[.int .u64 8192, .slice xa xn xc] 32) = w12 at *
  generalize w11.heap.size = q5 at *
  go_upto_region 13 with fail
  have XD : Hid (Below W.heap.size W w12.drew ∧ w12.drew.heap[p]? = some (.cells #[.int .u64 8192, .slice a n c] 32 (0, 0)) ∧ w12.drew.heap[q5]? = some (.cells #[.int .u64 8192, .slice xa xn xc] 32 (0, 0)) ∧ (RamAt w12.drew F' rb 8192 (12000 + dn) (.pointer none) Mx ∧ RamAt w12.drew F2 rb2 8192 12000 (.pointer none) M) ∧ (RefIn F' w12.drew (.slice a n c) n bs ∧ RefIn F' w12.drew (.slice xa xn xc) xn xs)) := ⟨XC.out.1.drew, XC.out.2.1, XC.out.2.2.1, ⟨XC.out.2.2.2.1.1.below (Below.refl _ _).drew, XC.out.2.2.2.1.2.below (Below.refl _ _).drew⟩, ⟨XC.out.2.2.2.2.1.below (Below.refl _ _).drew, XC.out.2.2.2.2.2.below (Below.refl _ _).drew⟩⟩
  clear XC
  have hS := two_pages HD0.out.2.2.1 HD.out.2.2.2.1 HD0.out.2.1 HD.out.2.2.1
  obtain ⟨Al, hA, hM⟩ := addresses_rise 524288 524289 hS
  have hMr : ∀ x, x ∈ Al ↔ rget bs n x ≠ rget xs xn x := by intro x; rw [hM, HD0.out.2.1, HD.out.2.2.1]
  have LA : Hid ((spans Al).length ≤ 10000) := few_spans hA hM hS
  have DF : Hid (Calls Try.prog 28 #[.pointer (some ⟨rb2, 0, none⟩), .pointer (some ⟨rb, 0, none⟩), .int .i64 5000] w12.drew fun e w' => ∃ v, e = .returned v ∧ SpanIn w12.drew.heap.size w' v ((spans Al).take (5000 : Int).toNat) ∧ Below w12.drew.heap.size w12.drew w') := differ_any XD.out.2.2.2.1.2 XD.out.2.2.2.1.1 (by omega) (by omega) (by omega) 524288 524289 (by omega) (by omega) hS 5000 Al hA hM
  have AP : Hid (∀ V, Below w12.drew.heap.size w12.drew V → Calls Try.prog 29 #[.agg #[.int .u64 8192, .slice a n c], .agg #[.int .u64 8192, .slice xa xn xc], .int .i64 5000] V fun e w' => ∃ v, e = .returned v ∧ SpanIn V.heap.size w' v ((spans Al).take (5000 : Int).toNat) ∧ Below V.heap.size V w') := fun V hV => apart_any (F := F') 8192 5000 (XD.out.2.2.2.2.1.below hV) (XD.out.2.2.2.2.2.below hV) (by have := HD0.out.2.2.2; omega) (by have := HD0.out.2.2.2; have := HD.out.2.2.2.2; omega) (fun i hi => by have := HD0.out.2.2.1 i hi; omega) (fun i hi => by have := HD.out.2.2.2.1 i hi; omega) Al hA hMr
  clear hS hA hM hMr
  obtain ⟨l, hl⟩ : ∃ l, (spans Al).take (5000 : Int).toNat = l := ⟨_, rfl⟩
  rw [hl] at DF AP
  have LL : Hid (l.length ≤ 10000) := by show l.length ≤ 10000; rw [← hl, List.length_take]; have := LA.out; omega
  clear hl LA HD HD0
  refine wp_region_held_drew (S := fun Z => Z.cell? ⟨p, 0, none⟩ = some (.int .u64 8192) ∧ Z.cell? ⟨p, 1, none⟩ = some (.slice a n c) ∧ Z.cell? ⟨q5, 0, none⟩ = some (.int .u64 8192) ∧ Z.cell? ⟨q5, 1, none⟩ = some (.slice xa xn xc)) (by kernel_rfl) ⟨cellOf XD.out.2.1 0 _ rfl, cellOf XD.out.2.1 1 _ rfl, cellOf XD.out.2.2.1 0 _ rfl, cellOf XD.out.2.2.1 1 _ rfl⟩ ?_
  intro hS
  generalize w12.drew = wd at *
  cases rm with
  | false =>
    refine wpAnyH_take (i := 0) (v := ?_) rfl (by kernel_rfl) (by kernel_rfl) (by kernel_rfl) (fun _ _ _ h => h) (Or.inl ⟨by kernel_rfl, ?_⟩) hS ?_
    rotate_left
    · intro w hSw; (try dsimp only at hSw); go_simp; try (with_reducible rfl)
    (try simp only [Act.put, List.getElem_toArray, List.getElem_cons_succ, List.getElem_cons_zero, List.setIfInBounds_toArray, List.set_cons_zero, List.set_cons_succ])
    refine wpAnyH_take (i := 1) (v := ?_) rfl (by kernel_rfl) (by kernel_rfl) (by kernel_rfl) (fun _ _ _ h => h) (Or.inl ⟨by kernel_rfl, ?_⟩) hS ?_
    rotate_left
    · intro w hSw; (try dsimp only at hSw); go_simp; try (with_reducible rfl)
    (try simp only [Act.put, List.getElem_toArray, List.getElem_cons_succ, List.getElem_cons_zero, List.setIfInBounds_toArray, List.set_cons_zero, List.set_cons_succ])
    refine wpAnyH_take (i := 2) (v := ?_) rfl (by kernel_rfl) (by kernel_rfl) (by kernel_rfl) (fun _ _ _ h => h) (Or.inl ⟨by kernel_rfl, ?_⟩) hS ?_
    rotate_left
    · intro w hSw; (try dsimp only at hSw); go_simp; try (with_reducible rfl)
    (try simp only [Act.put, List.getElem_toArray, List.getElem_cons_succ, List.getElem_cons_zero, List.setIfInBounds_toArray, List.set_cons_zero, List.set_cons_succ])
    refine wpAnyH_take (i := 3) (v := ?_) rfl (by kernel_rfl) (by kernel_rfl) (by kernel_rfl) (fun _ _ _ h => h) (Or.inl ⟨by kernel_rfl, ?_⟩) hS ?_
    rotate_left
    · intro w hSw; (try dsimp only at hSw); go_simp; try (with_reducible rfl)
    (try simp only [Act.put, List.getElem_toArray, List.getElem_cons_succ, List.getElem_cons_zero, List.setIfInBounds_toArray, List.set_cons_zero, List.set_cons_succ])
    refine wpAnyH_take (i := 4) (v := ?_) rfl (by kernel_rfl) (by kernel_rfl) (by kernel_rfl) (fun _ _ _ h => h) (Or.inl ⟨by kernel_rfl, ?_⟩) hS ?_
    rotate_left
    · intro w hSw; (try dsimp only at hSw); go_simp; try (with_reducible rfl)
    (try simp only [Act.put, List.getElem_toArray, List.getElem_cons_succ, List.getElem_cons_zero, List.setIfInBounds_toArray, List.set_cons_zero, List.set_cons_succ])
    refine wpAnyH_take (i := 5) (v := ?_) rfl (by kernel_rfl) (by kernel_rfl) (by kernel_rfl) (fun _ _ _ h => h) (Or.inl ⟨by kernel_rfl, ?_⟩) hS ?_
    rotate_left
    · intro w hSw; (try dsimp only at hSw); go_simp; try (with_reducible rfl)
    (try simp only [Act.put, List.getElem_toArray, List.getElem_cons_succ, List.getElem_cons_zero, List.setIfInBounds_toArray, List.set_cons_zero, List.set_cons_succ])
    refine wpAnyH_take (i := 7) (v := ?_) rfl (by kernel_rfl) (by kernel_rfl) (by kernel_rfl) (fun _ _ _ h => h) (Or.inl ⟨by kernel_rfl, ?_⟩) hS ?_
    rotate_left
    · intro w hSw; (try dsimp only at hSw); go_simp; try (with_reducible rfl)
    (try simp only [Act.put, List.getElem_toArray, List.getElem_cons_succ, List.getElem_cons_zero, List.setIfInBounds_toArray, List.set_cons_zero, List.set_cons_succ])
    refine wpAnyH_take (i := 8) (v := ?_) rfl (by kernel_rfl) (by kernel_rfl) (by kernel_rfl) (fun _ _ _ h => h) (Or.inl ⟨by kernel_rfl, ?_⟩) hS ?_
    rotate_left
    · intro w hSw; (try dsimp only at hSw); go_simp; try (with_reducible rfl)
    (try simp only [Act.put, List.getElem_toArray, List.getElem_cons_succ, List.getElem_cons_zero, List.setIfInBounds_toArray, List.set_cons_zero, List.set_cons_succ])
    refine wpAnyH_ready (rs := [6]) (by kernel_rfl) (by simp) ?_
    refine AllReadyH.cons rfl (fun K1 hK1 => ?_) AllReadyH.nil
    go_simp
    refine Calls.mono DF.out ?_
    rintro e w13 ⟨v5, rfl, hsp, hb⟩
    obtain ⟨ad, cd, rfl⟩ := hsp.form
    have X5 : Hid (SpanIn wd.heap.size w13 (.slice ad l.length cd) l ∧ Below wd.heap.size wd w13) := ⟨hsp, hb⟩
    clear hsp hb DF
    have hw13 := X5.out.2
    refine hK1.out _ _ ⟨cellOf (below_box XD.out.2.1 hw13) 0 _ rfl, cellOf (below_box XD.out.2.1 hw13) 1 _ rfl, cellOf (below_box XD.out.2.2.1 hw13) 0 _ rfl, cellOf (below_box XD.out.2.2.1 hw13) 1 _ rfl⟩ (fun h6 => ?_)
    clear hK1 K1 hS hw13
    (try simp only [Act.put, List.getElem_toArray, List.getElem_cons_succ, List.getElem_cons_zero, List.setIfInBounds_toArray, List.set_cons_zero, List.set_cons_succ])
    refine wpAnyH_ready (rs := [9]) (by kernel_rfl) (by simp) ?_
    refine AllReadyH.cons rfl (fun K1 hK1 => ?_) AllReadyH.nil
    go_simp
    refine (AP.out _ X5.out.2).mono ?_
    rintro e w14 ⟨v7, rfl, hsp7, hb7⟩
    obtain ⟨av, cv, rfl⟩ := hsp7.form
    have X7 : Hid (SpanIn wd.heap.size w14 (.slice ad l.length cd) l ∧ SpanIn wd.heap.size w14 (.slice av l.length cv) l ∧ Below wd.heap.size wd w14) := ⟨X5.out.1.kept (fun q hq => hb7.block q (X5.out.1.lt q hq).2), span_base hsp7 X5.out.2.size, below_to X5.out.2 hb7⟩
    clear hsp7 hb7 AP X5
    have hw14 := X7.out.2.2
    refine hK1.out _ _ ⟨cellOf (below_box XD.out.2.1 hw14) 0 _ rfl, cellOf (below_box XD.out.2.1 hw14) 1 _ rfl, cellOf (below_box XD.out.2.2.1 hw14) 0 _ rfl, cellOf (below_box XD.out.2.2.1 hw14) 1 _ rfl⟩ (fun h9 => ?_)
    clear hK1 K1 h6 hw14
    (try simp only [Act.put, List.getElem_toArray, List.getElem_cons_succ, List.getElem_cons_zero, List.setIfInBounds_toArray, List.set_cons_zero, List.set_cons_succ])
    refine wpAnyH_ready (rs := [10]) (by kernel_rfl) (by simp) ?_
    refine AllReadyH.cons rfl (fun K1 hK1 => ?_) AllReadyH.nil
    go_simp
    refine (same_spans X7.out.1 X7.out.2.1 (by have := LL.out; omega)).mono ?_
    rintro e w15 ⟨rfl, qd, hq⟩
    have X8 : Hid (Below wd.heap.size wd w15) := by show Below wd.heap.size wd w15; rw [hq]; exact below_drewN X7.out.2.2 qd
    clear hq X7
    have hw15 := X8.out
    refine hK1.out _ _ ⟨cellOf (below_box XD.out.2.1 hw15) 0 _ rfl, cellOf (below_box XD.out.2.1 hw15) 1 _ rfl, cellOf (below_box XD.out.2.2.1 hw15) 0 _ rfl, cellOf (below_box XD.out.2.2.1 hw15) 1 _ rfl⟩ (fun h10 => ?_)
    clear hK1 K1 h9 hw15
    (try simp only [Act.put, List.getElem_toArray, List.getElem_cons_succ, List.getElem_cons_zero, List.setIfInBounds_toArray, List.set_cons_zero, List.set_cons_succ])
    refine wpAnyH_take (i := 11) (v := ?_) rfl (by kernel_rfl) (by kernel_rfl) (by kernel_rfl) (fun _ _ _ h => h) (Or.inl ⟨by kernel_rfl, ?_⟩) h10 ?_
    rotate_left
    · intro w hSw; (try dsimp only at hSw); go_simp; try (with_reducible rfl)
    (try simp only [Act.put, List.getElem_toArray, List.getElem_cons_succ, List.getElem_cons_zero, List.setIfInBounds_toArray, List.set_cons_zero, List.set_cons_succ])
    refine wpAnyH_take (i := 12) (v := ?_) rfl (by kernel_rfl) (by kernel_rfl) (by kernel_rfl) (fun _ _ _ h => h) (Or.inl ⟨by kernel_rfl, ?_⟩) h10 ?_
    rotate_left
    · intro w hSw; (try dsimp only at hSw); go_simp; try (with_reducible rfl)
    (try simp only [Act.put, List.getElem_toArray, List.getElem_cons_succ, List.getElem_cons_zero, List.setIfInBounds_toArray, List.set_cons_zero, List.set_cons_succ])
    refine wpAnyH_done (by kernel_rfl) ?_ _
    clear h10
    go_wp2_with fail
    go_ret
    exact ⟨rfl, below_to XD.out.1 X8.out⟩
  | true =>
    refine wpAnyH_take (i := 0) (v := ?_) rfl (by kernel_rfl) (by kernel_rfl) (by kernel_rfl) (fun _ _ _ h => h) (Or.inl ⟨by kernel_rfl, ?_⟩) hS ?_
    rotate_left
    · intro w hSw; (try dsimp only at hSw); go_simp; try (with_reducible rfl)
    (try simp only [Act.put, List.getElem_toArray, List.getElem_cons_succ, List.getElem_cons_zero, List.setIfInBounds_toArray, List.set_cons_zero, List.set_cons_succ])
    refine wpAnyH_take (i := 1) (v := ?_) rfl (by kernel_rfl) (by kernel_rfl) (by kernel_rfl) (fun _ _ _ h => h) (Or.inl ⟨by kernel_rfl, ?_⟩) hS ?_
    rotate_left
    · intro w hSw; (try dsimp only at hSw); go_simp; try (with_reducible rfl)
    (try simp only [Act.put, List.getElem_toArray, List.getElem_cons_succ, List.getElem_cons_zero, List.setIfInBounds_toArray, List.set_cons_zero, List.set_cons_succ])
    refine wpAnyH_take (i := 2) (v := ?_) rfl (by kernel_rfl) (by kernel_rfl) (by kernel_rfl) (fun _ _ _ h => h) (Or.inl ⟨by kernel_rfl, ?_⟩) hS ?_
    rotate_left
    · intro w hSw; (try dsimp only at hSw); go_simp; try (with_reducible rfl)
    (try simp only [Act.put, List.getElem_toArray, List.getElem_cons_succ, List.getElem_cons_zero, List.setIfInBounds_toArray, List.set_cons_zero, List.set_cons_succ])
    refine wpAnyH_take (i := 3) (v := ?_) rfl (by kernel_rfl) (by kernel_rfl) (by kernel_rfl) (fun _ _ _ h => h) (Or.inl ⟨by kernel_rfl, ?_⟩) hS ?_
    rotate_left
    · intro w hSw; (try dsimp only at hSw); go_simp; try (with_reducible rfl)
    (try simp only [Act.put, List.getElem_toArray, List.getElem_cons_succ, List.getElem_cons_zero, List.setIfInBounds_toArray, List.set_cons_zero, List.set_cons_succ])
    refine wpAnyH_take (i := 4) (v := ?_) rfl (by kernel_rfl) (by kernel_rfl) (by kernel_rfl) (fun _ _ _ h => h) (Or.inl ⟨by kernel_rfl, ?_⟩) hS ?_
    rotate_left
    · intro w hSw; (try dsimp only at hSw); go_simp; try (with_reducible rfl)
    (try simp only [Act.put, List.getElem_toArray, List.getElem_cons_succ, List.getElem_cons_zero, List.setIfInBounds_toArray, List.set_cons_zero, List.set_cons_succ])
    refine wpAnyH_take (i := 5) (v := ?_) rfl (by kernel_rfl) (by kernel_rfl) (by kernel_rfl) (fun _ _ _ h => h) (Or.inl ⟨by kernel_rfl, ?_⟩) hS ?_
    rotate_left
    · intro w hSw; (try dsimp only at hSw); go_simp; try (with_reducible rfl)
    (try simp only [Act.put, List.getElem_toArray, List.getElem_cons_succ, List.getElem_cons_zero, List.setIfInBounds_toArray, List.set_cons_zero, List.set_cons_succ])
    refine wpAnyH_take (i := 7) (v := ?_) rfl (by kernel_rfl) (by kernel_rfl) (by kernel_rfl) (fun _ _ _ h => h) (Or.inl ⟨by kernel_rfl, ?_⟩) hS ?_
    rotate_left
    · intro w hSw; (try dsimp only at hSw); go_simp; try (with_reducible rfl)
    (try simp only [Act.put, List.getElem_toArray, List.getElem_cons_succ, List.getElem_cons_zero, List.setIfInBounds_toArray, List.set_cons_zero, List.set_cons_succ])
    refine wpAnyH_take (i := 8) (v := ?_) rfl (by kernel_rfl) (by kernel_rfl) (by kernel_rfl) (fun _ _ _ h => h) (Or.inl ⟨by kernel_rfl, ?_⟩) hS ?_
    rotate_left
    · intro w hSw; (try dsimp only at hSw); go_simp; try (with_reducible rfl)
    (try simp only [Act.put, List.getElem_toArray, List.getElem_cons_succ, List.getElem_cons_zero, List.setIfInBounds_toArray, List.set_cons_zero, List.set_cons_succ])
    refine wpAnyH_ready (rs := [6]) (by kernel_rfl) (by simp) ?_
    refine AllReadyH.cons rfl (fun K1 hK1 => ?_) AllReadyH.nil
    go_simp
    refine Calls.mono DF.out ?_
    rintro e w13 ⟨v5, rfl, hsp, hb⟩
    obtain ⟨ad, cd, rfl⟩ := hsp.form
    have X5 : Hid (SpanIn wd.heap.size w13 (.slice ad l.length cd) l ∧ Below wd.heap.size wd w13) := ⟨hsp, hb⟩
    clear hsp hb DF
    have hw13 := X5.out.2
    refine hK1.out _ _ ⟨cellOf (below_box XD.out.2.1 hw13) 0 _ rfl, cellOf (below_box XD.out.2.1 hw13) 1 _ rfl, cellOf (below_box XD.out.2.2.1 hw13) 0 _ rfl, cellOf (below_box XD.out.2.2.1 hw13) 1 _ rfl⟩ (fun h6 => ?_)
    clear hK1 K1 hS hw13
    (try simp only [Act.put, List.getElem_toArray, List.getElem_cons_succ, List.getElem_cons_zero, List.setIfInBounds_toArray, List.set_cons_zero, List.set_cons_succ])
    refine wpAnyH_ready (rs := [9]) (by kernel_rfl) (by simp) ?_
    refine AllReadyH.cons rfl (fun K1 hK1 => ?_) AllReadyH.nil
    go_simp
    refine (AP.out _ X5.out.2).mono ?_
    rintro e w14 ⟨v7, rfl, hsp7, hb7⟩
    obtain ⟨av, cv, rfl⟩ := hsp7.form
    have X7 : Hid (SpanIn wd.heap.size w14 (.slice ad l.length cd) l ∧ SpanIn wd.heap.size w14 (.slice av l.length cv) l ∧ Below wd.heap.size wd w14) := ⟨X5.out.1.kept (fun q hq => hb7.block q (X5.out.1.lt q hq).2), span_base hsp7 X5.out.2.size, below_to X5.out.2 hb7⟩
    clear hsp7 hb7 AP X5
    have hw14 := X7.out.2.2
    refine hK1.out _ _ ⟨cellOf (below_box XD.out.2.1 hw14) 0 _ rfl, cellOf (below_box XD.out.2.1 hw14) 1 _ rfl, cellOf (below_box XD.out.2.2.1 hw14) 0 _ rfl, cellOf (below_box XD.out.2.2.1 hw14) 1 _ rfl⟩ (fun h9 => ?_)
    clear hK1 K1 h6 hw14
    (try simp only [Act.put, List.getElem_toArray, List.getElem_cons_succ, List.getElem_cons_zero, List.setIfInBounds_toArray, List.set_cons_zero, List.set_cons_succ])
    refine wpAnyH_ready (rs := [10]) (by kernel_rfl) (by simp) ?_
    refine AllReadyH.cons rfl (fun K1 hK1 => ?_) AllReadyH.nil
    go_simp
    refine (same_spans X7.out.1 X7.out.2.1 (by have := LL.out; omega)).mono ?_
    rintro e w15 ⟨rfl, qd, hq⟩
    have X8 : Hid (Below wd.heap.size wd w15) := by show Below wd.heap.size wd w15; rw [hq]; exact below_drewN X7.out.2.2 qd
    clear hq X7
    have hw15 := X8.out
    refine hK1.out _ _ ⟨cellOf (below_box XD.out.2.1 hw15) 0 _ rfl, cellOf (below_box XD.out.2.1 hw15) 1 _ rfl, cellOf (below_box XD.out.2.2.1 hw15) 0 _ rfl, cellOf (below_box XD.out.2.2.1 hw15) 1 _ rfl⟩ (fun h10 => ?_)
    clear hK1 K1 h9 hw15
    (try simp only [Act.put, List.getElem_toArray, List.getElem_cons_succ, List.getElem_cons_zero, List.setIfInBounds_toArray, List.set_cons_zero, List.set_cons_succ])
    refine wpAnyH_take (i := 11) (v := ?_) rfl (by kernel_rfl) (by kernel_rfl) (by kernel_rfl) (fun _ _ _ h => h) (Or.inl ⟨by kernel_rfl, ?_⟩) h10 ?_
    rotate_left
    · intro w hSw; (try dsimp only at hSw); go_simp; try (with_reducible rfl)
    (try simp only [Act.put, List.getElem_toArray, List.getElem_cons_succ, List.getElem_cons_zero, List.setIfInBounds_toArray, List.set_cons_zero, List.set_cons_succ])
    refine wpAnyH_take (i := 12) (v := ?_) rfl (by kernel_rfl) (by kernel_rfl) (by kernel_rfl) (fun _ _ _ h => h) (Or.inl ⟨by kernel_rfl, ?_⟩) h10 ?_
    rotate_left
    · intro w hSw; (try dsimp only at hSw); go_simp; try (with_reducible rfl)
    (try simp only [Act.put, List.getElem_toArray, List.getElem_cons_succ, List.getElem_cons_zero, List.setIfInBounds_toArray, List.set_cons_zero, List.set_cons_succ])
    refine wpAnyH_done (by kernel_rfl) ?_ _
    clear h10
    go_wp2_with fail
    go_ret
    exact ⟨rfl, below_to XD.out.1 X8.out⟩
end Go.Proofs.Ytcgjfklglckjcaa
